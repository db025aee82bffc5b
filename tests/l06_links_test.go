package tests

import (
	"fmt"
	"math"
	"math/big"
	"math/rand"
	"slices"
	"strings"
	"testing"

	"loop.example/g00810/impl"
)

// fraction reads a number in any form of math/big, such as -3/2 or 1e215. It is the zero value if a Rat cannot have it.
func fraction(text string) impl.Rat {
	q, ok := new(big.Rat).SetString(text)
	if !ok {
		return impl.Rat{}
	}
	return ratOf(q)
}

// link reads A-B Weight DX DY without the functions of the project.
func link(text string) impl.Link {
	var l impl.Link
	var weight, dx, dy string
	if _, err := fmt.Sscanf(text, "%d-%d %s %s %s", &l.A, &l.B, &weight, &dx, &dy); err != nil {
		panic(err)
	}
	l.Weight, l.DX, l.DY = fraction(weight), fraction(dx), fraction(dy)
	return l
}

func links(texts ...string) []impl.Link {
	var l []impl.Link
	for _, text := range texts {
		l = append(l, link(text))
	}
	return l
}

func point(x, y string) impl.Point { return impl.Point{X: fraction(x), Y: fraction(y)} }

// linkRats returns the fractions of a link as places, in order, so that a test can write to one of them.
func linkRats(l *impl.Link) []*impl.Rat { return []*impl.Rat{&l.Weight, &l.DX, &l.DY} }

// equalLink does not call SameLinks, which is tested with it.
func equalLink(k, l impl.Link) bool {
	return k.A == l.A && k.B == l.B && sameRat(k.Weight, l.Weight) && sameRat(k.DX, l.DX) && sameRat(k.DY, l.DY)
}

func equalLinks(a, b []impl.Link) bool { return slices.EqualFunc(a, b, equalLink) }

func isZeroLink(l impl.Link) bool { return equalLink(l, impl.Link{}) }

// mergedExactly returns what MergeLinks has to return for valid links with the same ends. The formulas are computed with fractions
// as the document writes them, so that one that is too large on the way makes the result too large.
func mergedExactly(k, l impl.Link) (impl.Link, impl.Rat, bool) {
	v, w := k.Weight, l.Weight
	total := limited((*big.Rat).Add, v, w)
	average := func(r, s impl.Rat) impl.Rat {
		sum := limited((*big.Rat).Add, limited((*big.Rat).Mul, v, r), limited((*big.Rat).Mul, w, s))
		return limited((*big.Rat).Quo, sum, total)
	}
	merged := impl.Link{A: k.A, B: k.B, Weight: total, DX: average(k.DX, l.DX), DY: average(k.DY, l.DY)}
	x, y := limited((*big.Rat).Sub, k.DX, l.DX), limited((*big.Rat).Sub, k.DY, l.DY)
	apart := limited((*big.Rat).Add, limited((*big.Rat).Mul, x, x), limited((*big.Rat).Mul, y, y))
	energy := limited((*big.Rat).Mul, limited((*big.Rat).Quo, limited((*big.Rat).Mul, v, w), total), apart)
	if isZeroRat(merged.Weight) || isZeroRat(merged.DX) || isZeroRat(merged.DY) || isZeroRat(energy) {
		return impl.Link{}, impl.Rat{}, false
	}
	return merged, energy, true
}

func squaredLength(x, otherX, y, otherY *big.Rat) *big.Rat {
	dx, dy := new(big.Rat).Sub(x, otherX), new(big.Rat).Sub(y, otherY)
	return new(big.Rat).Add(dx.Mul(dx, dx), dy.Mul(dy, dy))
}

// energyExactly returns what LinkEnergy has to return for valid arguments.
func energyExactly(l impl.Link, p, q impl.Point) impl.Rat {
	x := new(big.Rat).Sub(quotientOf(q.X), quotientOf(p.X))
	y := new(big.Rat).Sub(quotientOf(q.Y), quotientOf(p.Y))
	length := squaredLength(x, quotientOf(l.DX), y, quotientOf(l.DY))
	return ratOf(length.Mul(length, quotientOf(l.Weight)))
}

func randomRat(r *rand.Rand, limbs int) impl.Rat {
	num, den := valueOf(randomRow(r, limbs)), valueOf(randomRow(r, limbs))
	if r.Intn(2) == 0 {
		num.Neg(num)
	}
	return ratOf(new(big.Rat).SetFrac(num, den))
}

func randomLink(r *rand.Rand, a, b, limbs int) impl.Link {
	l := impl.Link{A: a, B: b, Weight: randomRat(r, limbs), DX: randomRat(r, limbs), DY: randomRat(r, limbs)}
	l.Weight.Num.Neg = false
	return l
}

// sampleLinks returns valid links with these ends, whose sums and products stay small.
func sampleLinks(a, b int) []impl.Link {
	texts := []string{"1 0 0", "1 7 0", "1/2 4 0", "3 -1/3 5/7", "9999 1000000 -1000000", "2/9 -1000000 1/1000000007", "1000000000/7 0 -8/9", "1/1000000001 3 3"}
	r := rand.New(rand.NewSource(11))
	l := []impl.Link{randomLink(r, a, b, 1), randomLink(r, a, b, 1)}
	for _, text := range texts {
		l = append(l, link(fmt.Sprintf("%d-%d %s", a, b, text)))
	}
	return l
}

func samplePoints() []impl.Point {
	r := rand.New(rand.NewSource(12))
	l := []impl.Point{point("0", "0"), point("7", "-3"), point("1/2", "-5/3"), point("-1000000", "1000000"), point("1000000000/3", "-1/1000000007")}
	for range 3 {
		l = append(l, impl.Point{X: randomRat(r, 1), Y: randomRat(r, 1)})
	}
	return l
}

// invalidLinks returns links of which one field, or several, are not valid.
func invalidLinks() []impl.Link {
	l := []impl.Link{{}}
	for _, ends := range [][2]int{{-1, 3}, {3, 10}, {0, 0}, {9, 9}, {3, 2}, {9, 0}, {10, 11}, {-2, -1}, {math.MinInt, 3}, {3, math.MaxInt}, {math.MaxInt, math.MinInt}} {
		k := link("0-1 1 0 0")
		k.A, k.B = ends[0], ends[1]
		l = append(l, k)
	}
	for _, weight := range []string{"0", "-1", "-1/2", "-1e215"} {
		l = append(l, link("0-1 "+weight+" 0 0"))
	}
	for _, r := range invalidRats() {
		for i := range 3 {
			k := link("0-1 1 0 0")
			*linkRats(&k)[i] = r
			l = append(l, k)
		}
	}
	return l
}

// P18.
func TestLinkConstants(t *testing.T) {
	if impl.MaxNodes != 10 || impl.MaxWeight != 9999 {
		t.Errorf("MaxNodes = %d, MaxWeight = %d", impl.MaxNodes, impl.MaxWeight)
	}
}

// P18.
func TestIsValidLinkOfAllEnds(t *testing.T) {
	count := 0
	nodes := []int{math.MinInt, -10, -1, 0, 1, 2, 3, 4, 5, 6, 7, 8, 9, 10, 11, 20, math.MaxInt}
	for _, a := range nodes {
		for _, b := range nodes {
			l := link("0-1 1/2 -3 4")
			l.A, l.B = a, b
			want := a >= 0 && a < b && b <= 9
			if got := impl.IsValidLink(l); got != want {
				t.Errorf("IsValidLink(%v) = %v", l, got)
			}
			if want {
				count++
			}
		}
	}
	if count != 45 {
		t.Errorf("%d pairs of nodes", count)
	}
}

// P18. The samples include fractions with the most limbs that a fraction may have.
func TestIsValidLinkOfFractions(t *testing.T) {
	for _, r := range sampleRats() {
		l := link("0-9 1 0 0")
		l.Weight = r
		if got, want := impl.IsValidLink(l), quotientOf(r).Sign() > 0; got != want {
			t.Errorf("IsValidLink with the Weight %v = %v", r, got)
		}
		l = link("0-9 1 0 0")
		l.DX = r
		if !impl.IsValidLink(l) {
			t.Errorf("IsValidLink with the DX %v = false", r)
		}
		l = link("0-9 1 0 0")
		l.DY = r
		if !impl.IsValidLink(l) {
			t.Errorf("IsValidLink with the DY %v = false", r)
		}
	}
	for _, l := range invalidLinks() {
		if impl.IsValidLink(l) {
			t.Errorf("IsValidLink(%v) = true", l)
		}
	}
}

func checkNewLink(t *testing.T, a, b, weight, dx, dy int) {
	t.Helper()
	isNode := func(n int) bool { return n >= 0 && n <= 9 }
	isSide := func(n int) bool { return n >= -1000000 && n <= 1000000 }
	var want impl.Link
	ok := isNode(a) && isNode(b) && a != b && weight >= 1 && weight <= 9999 && isSide(dx) && isSide(dy)
	if ok && a < b {
		want = link(fmt.Sprintf("%d-%d %d %d %d", a, b, weight, dx, dy))
	} else if ok {
		want = link(fmt.Sprintf("%d-%d %d %d %d", b, a, weight, -dx, -dy))
	}
	if got, gotOk := impl.NewLink(a, b, weight, dx, dy); gotOk != ok || !equalLink(got, want) {
		t.Errorf("NewLink(%d, %d, %d, %d, %d) = %v, %v, want %v, %v", a, b, weight, dx, dy, got, gotOk, want, ok)
	}
}

// P18.
func TestNewLink(t *testing.T) {
	nodes := []int{math.MinInt, -1, 0, 1, 5, 8, 9, 10, math.MaxInt}
	weights := []int{math.MinInt, -1, 0, 1, 2, 9998, 9999, 10000, math.MaxInt}
	sides := []int{math.MinInt, -1000001, -1000000, -7, 0, 7, 1000000, 1000001, math.MaxInt}
	for _, a := range nodes {
		for _, b := range nodes {
			for _, weight := range weights {
				for _, dx := range sides {
					for _, dy := range sides {
						checkNewLink(t, a, b, weight, dx, dy)
					}
				}
			}
		}
	}
	for a := -2; a <= 11; a++ {
		for b := -2; b <= 11; b++ {
			checkNewLink(t, a, b, 3, 4, -5)
		}
	}
}

// P3, P18. Both orders of the two links.
func TestMergeLinks(t *testing.T) {
	cases := []struct{ k, l, want, energy string }{
		{"0-2 1 7 0", "0-2 1/2 4 0", "0-2 3/2 6 0", "3"},
		{"0-1 1 0 0", "0-1 1 0 0", "0-1 2 0 0", "0"},
		{"3-9 2/3 -1/2 5/7", "3-9 2/3 -1/2 5/7", "3-9 4/3 -1/2 5/7", "0"},
		{"3-9 2/3 -1/2 5/7", "3-9 1/3 -1/2 5/7", "3-9 1 -1/2 5/7", "0"},
		{"8-9 1 1 0", "8-9 1 -1 0", "8-9 2 0 0", "2"},
		{"8-9 1 0 1", "8-9 1 0 -1", "8-9 2 0 0", "2"},
		{"0-9 1 3 4", "0-9 2 0 0", "0-9 3 1 4/3", "50/3"},
		{"0-9 9999 1000000 -1000000", "0-9 1 -1000000 1000000", "0-9 10000 999800 -999800", "7999200000000"},
		{"1-2 1/2 1/3 1/5", "1-2 1/7 -1/3 2/5", "1-2 9/14 5/27 11/45", "109/2025"},
	}
	for _, c := range cases {
		for _, pair := range [][2]string{{c.k, c.l}, {c.l, c.k}} {
			got, energy, ok := impl.MergeLinks(link(pair[0]), link(pair[1]))
			if !ok || !equalLink(got, link(c.want)) || !sameRat(energy, fraction(c.energy)) {
				t.Errorf("MergeLinks of %s and %s = %s, %s, %v, want %s, %s", pair[0], pair[1], impl.FormatLink(got), impl.FormatRat(energy), ok, c.want, c.energy)
			}
		}
	}
}

// P3, P18.
func TestMergeLinksOfSamples(t *testing.T) {
	r := rand.New(rand.NewSource(13))
	l := sampleLinks(2, 7)
	// With more limbs, some results are too large.
	for n := range 12 {
		l = append(l, randomLink(r, 2, 7, 1+n/2))
	}
	valid, tooLarge := 0, 0
	for _, first := range l {
		for _, second := range l {
			want, wantEnergy, wantOk := mergedExactly(first, second)
			got, energy, ok := impl.MergeLinks(first, second)
			if ok != wantOk || !equalLink(got, want) || !sameRat(energy, wantEnergy) {
				t.Errorf("MergeLinks(%v, %v) = %v, %v, %v, want %v, %v, %v", first, second, got, energy, ok, want, wantEnergy, wantOk)
			}
			if ok {
				valid++
			} else {
				tooLarge++
			}
		}
	}
	if valid < 100 || tooLarge < 100 {
		t.Errorf("%d results are valid and %d are too large", valid, tooLarge)
	}
}

// P18. In each pair of cases, one result is just valid and then just too large, while all other results stay valid.
func TestMergeLinksAtTheLimit(t *testing.T) {
	nines, zeros := strings.Repeat("9", 216), strings.Repeat("0", 215)
	cases := []struct {
		name, k, l, want, energy string
	}{
		{"Weight", "0-1 " + nines[1:] + "8 0 0", "0-1 1 0 0", "0-1 " + nines + " 0 0", "0"},
		{"Weight", "0-1 " + nines + " 0 0", "0-1 1 0 0", "", ""},
		{"divided Weight", "0-1 1e-215 0 0", "0-1 1/7 0 0", "0-1 1" + zeros[:214] + "7/7" + zeros + " 0 0", "0"},
		{"divided Weight", "0-1 1e-215 0 0", "0-1 1/11 0 0", "", ""},
		{"DX", "0-1 1/2 " + nines + " 3", "0-1 1/2 " + nines[1:] + "7 3", "0-1 1 " + nines[1:] + "8 3", "1"},
		{"DX", "0-1 1/2 " + nines + " 3", "0-1 1/2 " + nines[1:] + "8 3", "", ""},
		{"DX", "0-1 1/2 -" + nines + " 3", "0-1 1/2 -" + nines[1:] + "8 3", "", ""},
		{"DY", "0-1 1/2 3 -" + nines, "0-1 1/2 3 -" + nines[1:] + "7", "0-1 1 3 -" + nines[1:] + "8", "1"},
		{"DY", "0-1 1/2 3 " + nines, "0-1 1/2 3 " + nines[1:] + "8", "", ""},
		{"energy in DX", "0-1 2 " + nines[:108] + " 5", "0-1 2 0 5", "0-1 4 " + nines[:108] + "/2 5", nines[:107] + "8" + zeros[:107] + "1"},
		{"energy in DX", "0-1 2 1e108 5", "0-1 2 0 5", "", ""},
		{"energy in DY", "0-1 2 5 -" + nines[:108], "0-1 2 5 0", "0-1 4 5 -" + nines[:108] + "/2", nines[:107] + "8" + zeros[:107] + "1"},
		{"energy in DY", "0-1 2 5 -1e108", "0-1 2 5 0", "", ""},
		{"energy of the sum", "0-1 2 7e107 7e107", "0-1 2 0 0", "0-1 4 35e106 35e106", "98e214"},
		{"energy of the sum", "0-1 2 8e107 8e107", "0-1 2 0 0", "", ""},
	}
	for _, c := range cases {
		var want impl.Link
		if c.want != "" {
			want = link(c.want)
		}
		for _, pair := range [][2]impl.Link{{link(c.k), link(c.l)}, {link(c.l), link(c.k)}} {
			if !impl.IsValidLink(pair[0]) || !impl.IsValidLink(pair[1]) {
				t.Fatalf("%s: the links are not valid", c.name)
			}
			got, energy, ok := impl.MergeLinks(pair[0], pair[1])
			if ok != (c.want != "") || !equalLink(got, want) || !sameRat(energy, fraction(c.energy)) {
				t.Errorf("%s: MergeLinks of %s and %s = %v, %v, %v", c.name, c.k, c.l, got, energy, ok)
			}
		}
	}
}

// P18. Chapter 5: a fraction that becomes too large makes everything that is computed from it the zero value, here the product
// of the weights that the energy begins with, and the products of the weights and the DX or DY.
func TestMergeLinksThatAreTooLargeOnTheWay(t *testing.T) {
	for _, text := range []string{"0-1 1e108 0 0", "0-1 1e200 5 5", "0-1 1e-108 0 0", "0-1 1e100 1e116 0", "0-1 1e100 0 -1e116"} {
		if got, energy, ok := impl.MergeLinks(link(text), link(text)); ok || !isZeroLink(got) || !isZeroRat(energy) {
			t.Errorf("MergeLinks of %s and itself = %v, %v, %v", text, got, energy, ok)
		}
	}
	for _, text := range []string{"0-1 1e107 0 0", "0-1 1e-107 0 0", "0-1 1e100 1e115 0", "0-1 1e100 0 -1e115"} {
		want := link(text)
		want.Weight = impl.RatMul(want.Weight, impl.RatFromInt(2))
		if got, energy, ok := impl.MergeLinks(link(text), link(text)); !ok || !equalLink(got, want) || !sameRat(energy, fraction("0")) {
			t.Errorf("MergeLinks of %s and itself = %v, %v, %v", text, got, energy, ok)
		}
	}
}

// P18. The same link is rejected as the first, as the second and as both.
func TestMergeLinksRejects(t *testing.T) {
	pairs := [][2]impl.Link{}
	valid := link("0-1 1 0 0")
	for _, l := range invalidLinks() {
		pairs = append(pairs, [2]impl.Link{valid, l}, [2]impl.Link{l, valid}, [2]impl.Link{l, l})
	}
	ends := []string{"0-1", "0-2", "1-2", "0-9", "8-9", "1-9"}
	for _, first := range ends {
		for _, second := range ends {
			if first != second {
				pairs = append(pairs, [2]impl.Link{link(first + " 1 0 0"), link(second + " 1 0 0")})
			}
		}
	}
	for _, pair := range pairs {
		if got, energy, ok := impl.MergeLinks(pair[0], pair[1]); ok || !isZeroLink(got) || !isZeroRat(energy) {
			t.Errorf("MergeLinks(%v, %v) = %v, %v, %v", pair[0], pair[1], got, energy, ok)
		}
	}
}

// P3. Wherever the ends are, two links have the energy of the merged link plus a constant.
func TestMergeLinksPreservesTheEnergy(t *testing.T) {
	zero := point("0", "0")
	for _, k := range sampleLinks(0, 4) {
		for _, l := range sampleLinks(0, 4) {
			merged, energy, ok := impl.MergeLinks(k, l)
			if !ok || !impl.IsValidLink(merged) || impl.RatSign(energy) < 0 {
				t.Fatalf("MergeLinks(%v, %v) = %v, %v, %v", k, l, merged, energy, ok)
			}
			for _, p := range samplePoints() {
				apart := new(big.Rat).Add(quotientOf(impl.LinkEnergy(k, zero, p)), quotientOf(impl.LinkEnergy(l, zero, p)))
				together := new(big.Rat).Add(quotientOf(impl.LinkEnergy(merged, zero, p)), quotientOf(energy))
				if apart.Cmp(together) != 0 {
					t.Errorf("at %v, the energy of %v and %v is %v, and that of their merged link is %v", p, k, l, apart, together)
				}
			}
			// Nothing is left at the place that the merged link states.
			best := impl.Point{X: merged.DX, Y: merged.DY}
			if got := impl.LinkEnergy(merged, zero, best); !sameRat(got, fraction("0")) {
				t.Errorf("the energy of %v at its own place is %v", merged, got)
			}
		}
	}
}

// P18.
func TestLinkEnergy(t *testing.T) {
	cases := []struct {
		l    string
		p, q impl.Point
		want string
	}{
		{"0-1 1 0 0", point("0", "0"), point("0", "0"), "0"},
		{"0-1 1 3 -4", point("0", "0"), point("3", "-4"), "0"},
		{"0-1 1 3 -4", point("10", "20"), point("13", "16"), "0"},
		{"0-1 1 0 0", point("0", "0"), point("3", "-4"), "25"},
		{"0-1 2 0 0", point("3", "-4"), point("0", "0"), "50"},
		{"0-1 1 3 -4", point("0", "0"), point("0", "0"), "25"},
		{"0-1 1 3 -4", point("3", "-4"), point("0", "0"), "100"},
		{"0-1 1 1 0", point("5", "7"), point("8", "7"), "4"},
		{"0-1 1 0 1", point("5", "7"), point("5", "10"), "4"},
		{"4-9 1/2 1/3 0", point("1/2", "0"), point("0", "-2/5"), "769/1800"},
		{"8-9 9999 1000000 -1000000", point("1000000", "-1000000"), point("-1000000", "1000000"), "179982000000000000"},
	}
	for _, c := range cases {
		if got := impl.LinkEnergy(link(c.l), c.p, c.q); !sameRat(got, fraction(c.want)) {
			t.Errorf("LinkEnergy(%s, %v, %v) = %s, want %s", c.l, c.p, c.q, impl.FormatRat(got), c.want)
		}
	}
}

// P18.
func TestLinkEnergyOfSamples(t *testing.T) {
	r := rand.New(rand.NewSource(14))
	l := sampleLinks(3, 5)
	points := samplePoints()
	for n := range 4 {
		l = append(l, randomLink(r, 3, 5, n+1))
		points = append(points, impl.Point{X: randomRat(r, n+1), Y: randomRat(r, n+1)})
	}
	valid, tooLarge := 0, 0
	for _, k := range l {
		for _, p := range points {
			for _, q := range points {
				want := energyExactly(k, p, q)
				if got := impl.LinkEnergy(k, p, q); !sameRat(got, want) {
					t.Errorf("LinkEnergy(%v, %v, %v) = %v, want %v", k, p, q, got, want)
				}
				if isZeroRat(want) {
					tooLarge++
				} else {
					valid++
				}
			}
		}
	}
	if valid < 100 || tooLarge < 100 {
		t.Errorf("%d results are valid and %d are too large", valid, tooLarge)
	}
}

// P18.
func TestLinkEnergyAtTheLimit(t *testing.T) {
	nines := strings.Repeat("9", 216)
	most := nines[:107] + "8" + strings.Repeat("0", 107) + "1"
	cases := []struct{ l, x, y, want string }{
		{"0-1 1 0 0", nines[:108], "0", most},
		{"0-1 1 0 0", "1e108", "0", ""},
		{"0-1 1 0 0", "0", "-" + nines[:108], most},
		{"0-1 1 0 0", "0", "-1e108", ""},
		{"0-1 1 1e108 0", "0", "0", ""},
		{"0-1 1 0 -1e108", "0", "0", ""},
		{"0-1 1 7e107 0", "0", "7e107", "98e214"},
		{"0-1 1 8e107 0", "0", "8e107", ""},
		{"0-1 " + nines + " 0 0", "1", "0", nines},
		{"0-1 " + nines + " 0 0", "1", "1", ""},
		{"0-1 " + nines + " 0 0", "0", "0", "0"},
		{"0-1 1/" + nines + " 0 0", "1", "1", "2/" + nines},
		{"0-1 1/" + nines + " 0 0", "1/2", "0", ""},
		{"0-1 1 0 0", "1e-107", "0", "1e-214"},
		{"0-1 1 0 0", "1e-108", "0", ""},
		{"0-1 1 -1 0", nines, "0", ""},
		{"0-1 1 " + nines + " 0", nines[1:] + "8", "0", "1"},
	}
	for _, c := range cases {
		if got := impl.LinkEnergy(link(c.l), point("0", "0"), point(c.x, c.y)); !sameRat(got, fraction(c.want)) {
			t.Errorf("LinkEnergy(%s) at %s, %s = %v, want %q", c.l, c.x, c.y, got, c.want)
		}
		// From the point back to the origin, the link and the energy are the same in reverse.
		back := link(c.l)
		back.DX, back.DY = impl.RatNeg(back.DX), impl.RatNeg(back.DY)
		if got := impl.LinkEnergy(back, point(c.x, c.y), point("0", "0")); !sameRat(got, fraction(c.want)) {
			t.Errorf("LinkEnergy(%s) in reverse at %s, %s = %v, want %q", c.l, c.x, c.y, got, c.want)
		}
	}
}

// P18. A fraction that is not valid counts in every place, and whatever the other fractions are.
func TestLinkEnergyRejects(t *testing.T) {
	p, q := point("1", "2"), point("-1/2", "3")
	for _, l := range invalidLinks() {
		if got := impl.LinkEnergy(l, p, q); !isZeroRat(got) {
			t.Errorf("LinkEnergy(%v, %v, %v) = %v", l, p, q, got)
		}
	}
	for _, r := range invalidRats() {
		for _, l := range links("0-1 1 0 0", "0-1 1/2 -3/2 1") {
			for i := range 5 {
				ends := []impl.Rat{p.X, p.Y, q.X, q.Y}
				for place := range ends {
					// The last turn replaces all of them.
					if i == place || i == 4 {
						ends[place] = r
					}
				}
				if got := impl.LinkEnergy(l, impl.Point{X: ends[0], Y: ends[1]}, impl.Point{X: ends[2], Y: ends[3]}); !isZeroRat(got) {
					t.Errorf("LinkEnergy(%v) of the fractions %v = %v", l, ends, got)
				}
			}
		}
	}
}

// allLinks returns a link for every pair of nodes, as a link set.
func allLinks() []impl.Link {
	var l []impl.Link
	for a := range 10 {
		for b := a + 1; b < 10; b++ {
			l = append(l, link(fmt.Sprintf("%d-%d %d/2 %d -%d/3", a, b, a+2*b+1, a+1, b)))
		}
	}
	return l
}

// P18.
func TestIsLinkSet(t *testing.T) {
	all := allLinks()
	swapped := slices.Clone(all)
	swapped[20], swapped[21] = swapped[21], swapped[20]
	reversed := slices.Clone(all)
	slices.Reverse(reversed)
	cases := []struct {
		name string
		l    []impl.Link
		want bool
	}{
		{"nil", nil, true},
		{"no links", []impl.Link{}, true},
		{"one link", links("3-4 1 0 0"), true},
		{"all links", all, true},
		{"every third link", []impl.Link{all[0], all[3], all[6], all[44]}, true},
		{"A before B", links("0-9 1 0 0", "1-2 1 0 0"), true},
		{"the greater A first", links("1-2 1 0 0", "0-9 1 0 0"), false},
		{"the greater B first", links("1-3 1 0 0", "1-2 1 0 0"), false},
		{"one link twice", links("1-2 1 0 0", "1-2 1 0 0"), false},
		{"two links for one pair", links("1-2 1 0 0", "1-2 2 5 5"), false},
		{"two links for the last pair", append(slices.Clone(all), all[44]), false},
		{"two neighbors exchanged", swapped, false},
		{"in descending order", reversed, false},
	}
	for _, c := range cases {
		if got := impl.IsLinkSet(c.l); got != c.want {
			t.Errorf("%s: IsLinkSet = %v", c.name, got)
		}
	}
}

// P18.
func TestIsLinkSetRejectsInvalidLinks(t *testing.T) {
	for _, l := range invalidLinks() {
		if impl.IsLinkSet([]impl.Link{l}) {
			t.Errorf("%v alone is a link set", l)
		}
	}
	// At each place, the ends stay as they are, so that the order does too.
	for i := range allLinks() {
		for _, spoiled := range []impl.Rat{{}, fractionOf(false, []int{2}, []int{4}), fractionOf(true, nil, []int{1})} {
			for field := range 3 {
				l := allLinks()
				*linkRats(&l[i])[field] = spoiled
				if impl.IsLinkSet(l) {
					t.Errorf("a set with the link %v is a link set", l[i])
				}
			}
		}
	}
	for _, text := range []string{"2-2 1 0 0", "3-10 1 0 0", "10-11 1 0 0"} {
		l := links("0-1 1 0 0", text)
		if impl.IsLinkSet(l) {
			t.Errorf("a set with the link %s is a link set", text)
		}
	}
	if impl.IsLinkSet(links("-1-3 1 0 0", "0-1 1 0 0")) {
		t.Error("a set with a negative node is a link set")
	}
}

// P3, P18.
func TestAddLink(t *testing.T) {
	set := []string{"0-2 1 7 0", "1-3 2 1/2 5", "4-9 1/3 -1 0"}
	cases := []struct {
		name, l string
		want    []string
		energy  string
	}{
		{"before the first", "0-1 3 -2 1/7", []string{"0-1 3 -2 1/7", set[0], set[1], set[2]}, "0"},
		{"behind the first", "0-9 3 -2 1/7", []string{set[0], "0-9 3 -2 1/7", set[1], set[2]}, "0"},
		{"before the second, by B", "1-2 3 -2 1/7", []string{set[0], "1-2 3 -2 1/7", set[1], set[2]}, "0"},
		{"behind the second, by B", "1-9 3 -2 1/7", []string{set[0], set[1], "1-9 3 -2 1/7", set[2]}, "0"},
		{"before the last", "4-5 3 -2 1/7", []string{set[0], set[1], "4-5 3 -2 1/7", set[2]}, "0"},
		{"behind the last", "8-9 3 -2 1/7", []string{set[0], set[1], set[2], "8-9 3 -2 1/7"}, "0"},
		{"to the first", "0-2 1/2 4 0", []string{"0-2 3/2 6 0", set[1], set[2]}, "3"},
		{"to the second", "1-3 2 1/2 3", []string{set[0], "1-3 4 1/2 4", set[2]}, "4"},
		{"to the last", "4-9 1/3 -1 0", []string{set[0], set[1], "4-9 2/3 -1 0"}, "0"},
	}
	for _, c := range cases {
		got, energy, ok := impl.AddLink(links(set...), link(c.l))
		if !ok || !equalLinks(got, links(c.want...)) || !sameRat(energy, fraction(c.energy)) {
			t.Errorf("%s: AddLink = %v, %v, %v, want %v, %s", c.name, got, energy, ok, c.want, c.energy)
		}
	}
	for _, empty := range [][]impl.Link{nil, {}} {
		got, energy, ok := impl.AddLink(empty, link("8-9 1 2 3"))
		if !ok || !equalLinks(got, links("8-9 1 2 3")) || !sameRat(energy, fraction("0")) {
			t.Errorf("AddLink to no links = %v, %v, %v", got, energy, ok)
		}
	}
}

// P3, P18. Each of the links for all pairs is taken out and put back, and then put in once more.
func TestAddLinkAtEveryPlace(t *testing.T) {
	for i := range allLinks() {
		all := allLinks()
		rest := slices.Delete(allLinks(), i, i+1)
		got, energy, ok := impl.AddLink(rest, all[i])
		if !ok || !equalLinks(got, all) || !sameRat(energy, fraction("0")) {
			t.Errorf("AddLink of link %d = %v, %v, %v", i, got, energy, ok)
		}
		other := all[i]
		other.Weight, other.DX, other.DY = fraction("5/7"), fraction("-2"), fraction("11")
		want := allLinks()
		var wantEnergy impl.Rat
		want[i], wantEnergy, _ = mergedExactly(all[i], other)
		got, energy, ok = impl.AddLink(all, other)
		if !ok || !equalLinks(got, want) || !sameRat(energy, wantEnergy) {
			t.Errorf("AddLink of a second link %d = %v, %v, %v", i, got, energy, ok)
		}
	}
}

func checkAddFails(t *testing.T, name string, set []impl.Link, l impl.Link) {
	t.Helper()
	if got, energy, ok := impl.AddLink(set, l); ok || len(got) > 0 || !isZeroRat(energy) {
		t.Errorf("%s: AddLink(%v, %v) = %v, %v, %v", name, set, l, got, energy, ok)
	}
}

// P18.
func TestAddLinkRejects(t *testing.T) {
	valid := link("1-2 1 0 0")
	for _, l := range invalidLinks() {
		checkAddFails(t, "to no links", nil, l)
		checkAddFails(t, "to a set", links("0-1 1 0 0", "8-9 1 0 0"), l)
		checkAddFails(t, "to an invalid link", []impl.Link{l}, valid)
		checkAddFails(t, "twice", []impl.Link{l}, l)
	}
	for name, set := range map[string][]impl.Link{
		"in another order":       links("0-2 1 0 0", "0-1 1 0 0"),
		"two links for one pair": links("0-1 1 0 0", "0-1 1 0 0"),
		"an invalid link behind": links("0-1 1 0 0", "8-9 0 0 0"),
		"an invalid link before": links("0-1 -1 0 0", "8-9 1 0 0"),
	} {
		checkAddFails(t, name, set, valid)
	}
	nines := strings.Repeat("9", 216)
	checkAddFails(t, "Weight too large", links("0-1 1 0 0", "1-2 "+nines+" 0 0"), valid)
	checkAddFails(t, "DX too large", links("1-2 1 "+nines+" 0", "8-9 1 0 0"), link("1-2 1 "+nines[1:]+"8 0"))
	checkAddFails(t, "energy too large", links("1-2 2 0 1e108", "8-9 1 0 0"), link("1-2 2 0 0"))
	// A link that cannot be merged can still be inserted.
	got, energy, ok := impl.AddLink(links("1-2 "+nines+" 0 0"), link("1-3 "+nines+" 0 0"))
	if !ok || !equalLinks(got, links("1-2 "+nines+" 0 0", "1-3 "+nines+" 0 0")) || !sameRat(energy, fraction("0")) {
		t.Errorf("AddLink of a great Weight = %v, %v, %v", got, energy, ok)
	}
}

// permutations returns all orders of l.
func permutations[T any](l []T) [][]T {
	if len(l) == 0 {
		return [][]T{nil}
	}
	var all [][]T
	for i := range l {
		rest := slices.Delete(slices.Clone(l), i, i+1)
		for _, p := range permutations(rest) {
			all = append(all, append([]T{l[i]}, p...))
		}
	}
	return all
}

// P3, P18. The lists are joined in every order.
func TestJoinLinksInEveryOrder(t *testing.T) {
	cases := []struct {
		l, want []string
		energy  string
	}{
		{nil, nil, "0"},
		{[]string{"3-4 1/2 5 -6"}, []string{"3-4 1/2 5 -6"}, "0"},
		{[]string{"0-1 1 0 0", "0-2 1 7 0", "1-2 1 4 0"}, []string{"0-1 1 0 0", "0-2 1 7 0", "1-2 1 4 0"}, "0"},
		{[]string{"0-9 1 1 0", "0-9 1 -1 0"}, []string{"0-9 2 0 0"}, "2"},
		{[]string{"0-9 1 1 0", "0-9 1 -1 0", "0-9 2 6 3"}, []string{"0-9 4 3 3/2"}, "47"},
		{[]string{"1-2 1/2 1 0", "0-9 3 0 0", "1-2 3/2 1 4", "0-9 6 0 3"}, []string{"0-9 9 0 2", "1-2 2 1 3"}, "24"},
		{[]string{"4-5 1/3 1/2 1/5", "4-5 1/7 -1/2 3", "4-5 2 0 0", "4-5 1/2 1/2 0", "0-1 1 1 1", "4-6 1 1 1"}, []string{"0-1 1 1 1", "4-5 125/42 29/250 104/625", "4-6 1 1 1"}, "8879/6250"},
	}
	for _, c := range cases {
		for _, l := range permutations(links(c.l...)) {
			set, energy, ok := impl.JoinLinks(l)
			if !ok || !equalLinks(set, links(c.want...)) || !impl.SameLinks(set, links(c.want...)) || !impl.IsLinkSet(set) {
				t.Errorf("JoinLinks(%v) = %v, %v, want %v", l, set, ok, c.want)
			}
			if !sameRat(energy, fraction(c.energy)) {
				t.Errorf("JoinLinks(%v) has the energy %s, want %s", l, impl.FormatRat(energy), c.energy)
			}
		}
	}
	if set, energy, ok := impl.JoinLinks([]impl.Link{}); !ok || len(set) > 0 || !sameRat(energy, fraction("0")) {
		t.Errorf("JoinLinks of an empty list = %v, %v, %v", set, energy, ok)
	}
}

// randomLinks returns n links between random nodes, with small fractions.
func randomLinks(r *rand.Rand, nodes int, n int) []impl.Link {
	var l []impl.Link
	for range n {
		a := r.Intn(nodes - 1)
		b := a + 1 + r.Intn(nodes-1-a)
		l = append(l, link(fmt.Sprintf("%d-%d %d/%d %d/%d %d", a, b, 1+r.Intn(9), 1+r.Intn(3), r.Intn(41)-20, 1+r.Intn(4), r.Intn(41)-20)))
	}
	return l
}

// randomPoints returns a position for every node, with small fractions.
func randomPoints(r *rand.Rand) []impl.Point {
	at := make([]impl.Point, 10)
	for i := range at {
		at[i] = impl.Point{X: impl.RatOf(r.Intn(201)-100, 1+r.Intn(5)), Y: impl.RatOf(r.Intn(201)-100, 1+r.Intn(5))}
	}
	return at
}

func shuffled[T any](r *rand.Rand, l []T) []T {
	l = slices.Clone(l)
	r.Shuffle(len(l), func(i, j int) { l[i], l[j] = l[j], l[i] })
	return l
}

func totalAt(t *testing.T, l []impl.Link, at []impl.Point) *big.Rat {
	t.Helper()
	total := new(big.Rat)
	for _, k := range l {
		energy := impl.LinkEnergy(k, at[k.A], at[k.B])
		if !impl.RatOk(energy) {
			t.Fatalf("LinkEnergy(%v) is not valid", k)
		}
		total.Add(total, quotientOf(energy))
	}
	return total
}

// P3. JoinLinks is AddLink for every link in order, any order gives the same set and energy, and at any positions the links
// have the energy of the set plus that of JoinLinks.
func TestJoinLinksOfRandomLists(t *testing.T) {
	r := rand.New(rand.NewSource(15))
	at := randomPoints(r)
	for n := range 60 {
		l := randomLinks(r, 2+n%9, 1+n)
		set, sum, ok := impl.JoinLinks(l)
		if !ok || !impl.IsLinkSet(set) || impl.RatSign(sum) < 0 {
			t.Fatalf("JoinLinks(%v) = %v, %v, %v", l, set, sum, ok)
		}
		var added []impl.Link
		energies := new(big.Rat)
		for _, k := range l {
			var energy impl.Rat
			if added, energy, ok = impl.AddLink(added, k); !ok {
				t.Fatalf("AddLink of %v fails", k)
			}
			energies.Add(energies, quotientOf(energy))
		}
		if !equalLinks(added, set) || energies.Cmp(quotientOf(sum)) != 0 {
			t.Errorf("JoinLinks(%v) = %v, %v, but AddLink leads to %v, %v", l, set, sum, added, energies)
		}
		if before, after := totalAt(t, l, at), totalAt(t, set, at); before.Cmp(after.Add(after, quotientOf(sum))) != 0 {
			t.Errorf("the energy of %v is %v, and %v after JoinLinks", l, before, after)
		}
		again, sumAgain, ok := impl.JoinLinks(shuffled(r, l))
		if !ok || !impl.SameLinks(again, set) || !sameRat(sumAgain, sum) {
			t.Errorf("JoinLinks(%v) = %v, %v, %v, and in another order %v, %v", l, again, sumAgain, ok, set, sum)
		}
		if same, none, ok := impl.JoinLinks(set); !ok || !impl.SameLinks(same, set) || !sameRat(none, fraction("0")) {
			t.Errorf("JoinLinks of the set %v = %v, %v, %v", set, same, none, ok)
		}
	}
}

func checkJoinFails(t *testing.T, l []impl.Link) {
	t.Helper()
	if set, sum, ok := impl.JoinLinks(l); ok || len(set) > 0 || !isZeroRat(sum) {
		t.Errorf("JoinLinks(%v) = %v, %v, %v", l, set, sum, ok)
	}
}

// P18.
func TestJoinLinksRejects(t *testing.T) {
	valid := links("0-1 1 0 0", "0-1 1 5 5", "8-9 1 0 0")
	for _, l := range invalidLinks() {
		checkJoinFails(t, []impl.Link{l})
		checkJoinFails(t, []impl.Link{l, l})
		for i := range len(valid) + 1 {
			checkJoinFails(t, slices.Insert(slices.Clone(valid), i, l))
		}
	}
	nines := strings.Repeat("9", 216)
	for _, pair := range [][]impl.Link{
		links("3-4 "+nines+" 0 0", "3-4 1 0 0"),
		links("3-4 1 "+nines+" 0", "3-4 1 "+nines[1:]+"8 0"),
		links("3-4 1 0 "+nines, "3-4 1 0 "+nines[1:]+"8"),
		links("3-4 2 1e108 0", "3-4 2 0 0"),
	} {
		for _, l := range permutations(append(pair, valid...)) {
			checkJoinFails(t, l)
		}
	}
}

// P3, P18. Both energies are valid, and only their sum is too large.
func TestJoinLinksWithATooLargeSum(t *testing.T) {
	// The energies are 49e214 and 64e214.
	small, great := links("0-1 2 7e107 0", "0-1 2 0 0"), links("1-2 2 0 8e107", "1-2 2 0 0")
	for _, l := range [][]impl.Link{small, great} {
		if _, _, ok := impl.JoinLinks(l); !ok {
			t.Errorf("JoinLinks(%v) fails", l)
		}
	}
	other := links("3-4 2 7e107 0", "3-4 2 0 0")
	for _, l := range permutations(append(slices.Clone(small), other...)) {
		set, sum, ok := impl.JoinLinks(l)
		if !ok || !equalLinks(set, links("0-1 4 35e106 0", "3-4 4 35e106 0")) || !sameRat(sum, fraction("98e214")) {
			t.Errorf("JoinLinks(%v) = %v, %v, %v", l, set, sum, ok)
		}
	}
	for _, l := range permutations(append(slices.Clone(small), great...)) {
		checkJoinFails(t, l)
		checkJoinFails(t, append(l, link("8-9 1 0 0")))
	}
}

// P18.
func TestFormatLink(t *testing.T) {
	nines := strings.Repeat("9", 216)
	texts := []string{
		"0-2 1 7 0", "0-1 1 0 0", "8-9 9999 1000000 -1000000", "3-7 1/2 -3/4 5/6", "0-9 12000000345/7 -1/1000000001 0",
		"0-1 " + nines + " 1/" + nines + " -" + nines, "1-2 3/2 6 0",
	}
	for _, text := range texts {
		if got := impl.FormatLink(link(text)); got != text {
			t.Errorf("FormatLink = %q, want %q", got, text)
		}
	}
	for _, l := range append(allLinks(), sampleLinks(4, 6)...) {
		want := fmt.Sprintf("%d-%d %s %s %s", l.A, l.B, quotientOf(l.Weight).RatString(), quotientOf(l.DX).RatString(), quotientOf(l.DY).RatString())
		if got := impl.FormatLink(l); got != want {
			t.Errorf("FormatLink(%v) = %q, want %q", l, got, want)
		}
	}
	for _, l := range invalidLinks() {
		if got := impl.FormatLink(l); got != "" {
			t.Errorf("FormatLink(%v) = %q", l, got)
		}
	}
}

// linksThatDiffer returns links that differ from 1-2 3 4 5 and from each other.
func linksThatDiffer() []impl.Link {
	l := links("0-2 3 4 5", "1-3 3 4 5", "2-1 3 4 5", "1-2 4 4 5", "1-2 3 3 5", "1-2 3 4 4", "1-2 3 5 4", "1-2 1/3 4 5", "1-2 3 -4 5", "1-2 3 4 -5", "1-2 -3 4 5", "1-2 3 1/4 5", "1-2 3 4 1/5")
	for field := range 3 {
		for _, r := range []impl.Rat{{}, fractionOf(false, nil, []int{1}), fractionOf(true, nil, []int{1}), fractionOf(false, []int{6}, []int{2}), fractionOf(false, []int{3, 0}, []int{1}), fractionOf(false, []int{3}, []int{1, 0})} {
			k := link("1-2 3 4 5")
			*linkRats(&k)[field] = r
			l = append(l, k)
		}
	}
	return append(l, impl.Link{})
}

// P3, P18.
func TestSameLinks(t *testing.T) {
	// Two links that are built apart have no memory in common.
	all := append([]impl.Link{link("1-2 3 4 5")}, linksThatDiffer()...)
	again := append([]impl.Link{link("1-2 3 4 5")}, linksThatDiffer()...)
	for i, k := range all {
		for j, l := range again {
			front, back := []impl.Link{k, all[0]}, []impl.Link{all[0], k}
			otherFront, otherBack := []impl.Link{l, again[0]}, []impl.Link{again[0], l}
			if impl.SameLinks([]impl.Link{k}, []impl.Link{l}) != (i == j) || impl.SameLinks(front, otherFront) != (i == j) || impl.SameLinks(back, otherBack) != (i == j) {
				t.Errorf("SameLinks of %v and %v is not %v", k, l, i == j)
			}
			if impl.SameLinks(front, otherBack) != (i == 0 && j == 0) {
				t.Errorf("SameLinks of %v and %v in two orders", k, l)
			}
		}
		if impl.SameLinks(all[:i], all) || impl.SameLinks(all, again[:i]) || !impl.SameLinks(all[:i], again[:i]) {
			t.Errorf("SameLinks of lists of %d links", i)
		}
	}
}

// P18. Chapter 1: a nil slice and an empty slice are equivalent.
func TestSameLinksOfEmptySlices(t *testing.T) {
	if !impl.SameLinks(nil, nil) || !impl.SameLinks(nil, []impl.Link{}) || !impl.SameLinks([]impl.Link{}, nil) {
		t.Error("SameLinks of nil and no links")
	}
	if impl.SameLinks(nil, []impl.Link{{}}) || impl.SameLinks([]impl.Link{{}}, nil) {
		t.Error("SameLinks of nil and a link")
	}
	empty := fractionOf(false, []int{}, []int{})
	zero := fractionOf(false, []int{}, []int{1})
	k := []impl.Link{{Weight: empty, DX: zero, DY: zero}}
	l := []impl.Link{{DX: fraction("0"), DY: fraction("0")}}
	if !impl.SameLinks(k, l) || !impl.SameLinks(l, k) {
		t.Errorf("SameLinks(%v, %v) = false", k, l)
	}
}

// guardedLink returns l with its rows at the front of longer arrays, and these arrays.
func guardedLink(l impl.Link) (impl.Link, [][]int) {
	var whole [][]int
	for _, r := range linkRats(&l) {
		var rows [][]int
		*r, rows = guarded(*r)
		whole = append(whole, rows...)
	}
	return l, whole
}

// guardedLinks returns l at the front of a longer array of guarded links, that array, and all arrays of rows.
func guardedLinks(l []impl.Link) ([]impl.Link, []impl.Link, [][]int) {
	var whole []impl.Link
	var rows [][]int
	for _, k := range append(slices.Clone(l), links("5-6 7 8 9", "0-1 2 3 4")...) {
		k, more := guardedLink(k)
		whole = append(whole, k)
		rows = append(rows, more...)
	}
	return whole[:len(l)], whole, rows
}

func rowsOfLinks(l []impl.Link) [][]int {
	var rows [][]int
	for _, k := range l {
		for _, r := range linkRats(&k) {
			rows = append(rows, r.Num.Mag, r.Den)
		}
	}
	return rows
}

// spoilRows writes over all rows of a result, and reports whether they are apart.
func spoilRows(rows [][]int) bool {
	apart := true
	for i, row := range rows {
		before := cloneRows(rows[i+1:])
		spoil(row)
		apart = apart && sameRows(rows[i+1:], before)
	}
	return apart
}

// linkCall is a call of a function, of which only the memory of its results matters.
type linkCall struct {
	name string
	run  func(set []impl.Link, k, l impl.Link) ([]impl.Link, impl.Rat)
}

func linkCalls() []linkCall {
	return []linkCall{
		{"MergeLinks", func(_ []impl.Link, k, l impl.Link) ([]impl.Link, impl.Rat) {
			merged, energy, _ := impl.MergeLinks(k, l)
			return []impl.Link{merged}, energy
		}},
		{"LinkEnergy", func(_ []impl.Link, k, l impl.Link) ([]impl.Link, impl.Rat) {
			return nil, impl.LinkEnergy(k, impl.Point{X: l.DX, Y: l.DY}, impl.Point{X: l.Weight, Y: l.DX})
		}},
		{"AddLink", func(set []impl.Link, k, _ impl.Link) ([]impl.Link, impl.Rat) {
			got, energy, _ := impl.AddLink(set, k)
			return got, energy
		}},
		{"JoinLinks", func(set []impl.Link, _, _ impl.Link) ([]impl.Link, impl.Rat) {
			got, energy, _ := impl.JoinLinks(set)
			return got, energy
		}},
		{"NewLink", func(_ []impl.Link, k, _ impl.Link) ([]impl.Link, impl.Rat) {
			l, _ := impl.NewLink(k.A, k.B, 1, 1, 1)
			return []impl.Link{l}, impl.Rat{}
		}},
		{"the rest", func(set []impl.Link, k, l impl.Link) ([]impl.Link, impl.Rat) {
			impl.IsValidLink(k)
			impl.IsLinkSet(set)
			impl.FormatLink(k)
			impl.SameLinks(set, []impl.Link{k, l})
			return nil, impl.Rat{}
		}},
	}
}

// Chapter 1: arguments and the capacity behind them stay as they are, and results share no memory with them or with each
// other.
func TestLinkMemory(t *testing.T) {
	sets := [][]impl.Link{
		nil, links("0-1 1 0 0"), links("1-2 1 1 1"), links("0-1 1 0 0", "1-2 1 1 1", "8-9 5/7 0 -3/2"), allLinks(),
		links("1-2 1 1 1", "1-2 1 1 1", "0-1 1 1 1", "1-2 1/3 0 7"), links("1-2 1 1 1", "0-1 0 1 1"), links("0-1 2 1e108 0", "0-1 2 0 0"),
	}
	samples := append(links("1-2 1 1 1", "1-2 1 0 0", "1-2 1/3 -5/7 1000000000/7", "0-9 1 1 1", "8-9 1 1 1", "0-1 1 0 0", "1-2 2 1e108 0", "2-1 1 1 1", "1-2 0 1 1"), impl.Link{})
	for _, call := range linkCalls() {
		for _, set := range sets {
			for _, first := range samples {
				for _, second := range samples {
					list, whole, rows := guardedLinks(set)
					k, rowsK := guardedLink(first)
					l, rowsL := guardedLink(second)
					arguments := slices.Concat(rows, rowsK, rowsL)
					before, linksBefore := cloneRows(arguments), slices.Clone(whole)
					got, energy := call.run(list, k, l)
					if !spoilRows(append(rowsOfLinks(got), energy.Num.Mag, energy.Den)) {
						t.Fatalf("%s(%v, %v, %v): slices of the result share memory", call.name, set, first, second)
					}
					clear(got[:cap(got)])
					if !sameRows(arguments, before) || !equalLinks(whole, linksBefore) {
						t.Fatalf("%s(%v, %v, %v): the arguments are changed", call.name, set, first, second)
					}
				}
			}
		}
	}
}

// Chapter 1: no state is kept between calls, even if the results of earlier calls are written over.
func TestLinkStateIsNotKept(t *testing.T) {
	for range 3 {
		l, ok := impl.NewLink(2, 0, 1, -7, 0)
		if !ok || impl.FormatLink(l) != "0-2 1 7 0" {
			t.Errorf("NewLink = %v, %v", l, ok)
		}
		set, sum, ok := impl.JoinLinks([]impl.Link{l, l})
		if !ok || len(set) != 1 || impl.FormatLink(set[0]) != "0-2 2 7 0" || impl.FormatRat(sum) != "0" {
			t.Errorf("JoinLinks = %v, %v, %v", set, sum, ok)
		}
		if !spoilRows(append(rowsOfLinks(append(set, l)), sum.Num.Mag, sum.Den)) {
			t.Error("slices of the results share memory")
		}
	}
}
