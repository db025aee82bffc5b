package tests

import (
	"fmt"
	"math"
	"math/big"
	"math/rand"
	"slices"
	"strings"
	"testing"

	"loop.example/g00810/impl"
)

// conditional reads the form of FormatConditional without the functions of the project. The fractions may have any form of
// math/big, and the conditional need not be valid.
func conditional(text string) impl.Conditional {
	words := strings.Fields(text)
	var c impl.Conditional
	if _, err := fmt.Sscan(words[0], &c.Node); err != nil {
		panic(err)
	}
	c.Total = fraction(words[1])
	for _, word := range words[2:] {
		parts := strings.Split(word, ":")
		p := impl.Parent{Share: fraction(parts[1]), DX: fraction(parts[2]), DY: fraction(parts[3])}
		if _, err := fmt.Sscan(parts[0], &p.Node); err != nil {
			panic(err)
		}
		c.Parents = append(c.Parents, p)
	}
	return c
}

// conditionalRats returns the fractions of a conditional as places: first Total, then three for each parent.
func conditionalRats(c *impl.Conditional) []*impl.Rat {
	l := []*impl.Rat{&c.Total}
	for i := range c.Parents {
		p := &c.Parents[i]
		l = append(l, &p.Share, &p.DX, &p.DY)
	}
	return l
}

func equalParent(p, q impl.Parent) bool {
	return p.Node == q.Node && sameRat(p.Share, q.Share) && sameRat(p.DX, q.DX) && sameRat(p.DY, q.DY)
}

// equalConditional does not call SameConditional, which is tested with it.
func equalConditional(a, b impl.Conditional) bool {
	return a.Node == b.Node && sameRat(a.Total, b.Total) && slices.EqualFunc(a.Parents, b.Parents, equalParent)
}

func isZeroConditional(c impl.Conditional) bool { return equalConditional(c, impl.Conditional{}) }

func equalPoint(p, q impl.Point) bool { return sameRat(p.X, q.X) && sameRat(p.Y, q.Y) }

func equalPoints(a, b []impl.Point) bool { return slices.EqualFunc(a, b, equalPoint) }

// limited computes with math/big. Like a Rat, it takes a result that is too large, and everything computed from it, for the
// zero value.
func limited(op func(z, x, y *big.Rat) *big.Rat, r, s impl.Rat) impl.Rat {
	if isZeroRat(r) || isZeroRat(s) {
		return impl.Rat{}
	}
	return ratOf(op(new(big.Rat), quotientOf(r), quotientOf(s)))
}

// eliminatedExactly returns what EliminateNode has to return for a link set.
func eliminatedExactly(set []impl.Link, v int) (impl.Conditional, []impl.Link, bool) {
	c := impl.Conditional{Node: v, Total: fraction("0")}
	weights := map[int]impl.Rat{}
	for other := range 10 {
		for _, k := range set {
			minus := fraction("-1")
			if k.A == other && k.B == v {
				minus = fraction("1")
			} else if k.A != v || k.B != other {
				continue
			}
			weights[other] = k.Weight
			c.Total = limited((*big.Rat).Add, c.Total, k.Weight)
			c.Parents = append(c.Parents, impl.Parent{Node: other, DX: limited((*big.Rat).Mul, minus, k.DX), DY: limited((*big.Rat).Mul, minus, k.DY)})
		}
	}
	sum := fraction("0")
	var mesh []impl.Link
	valid := v >= 1 && v <= 9 && len(c.Parents) > 0
	for i := range c.Parents {
		p := &c.Parents[i]
		p.Share = limited((*big.Rat).Quo, weights[p.Node], c.Total)
		sum = limited((*big.Rat).Add, sum, p.Share)
		for _, q := range c.Parents[i+1:] {
			weight := limited((*big.Rat).Quo, limited((*big.Rat).Mul, weights[p.Node], weights[q.Node]), c.Total)
			dx, dy := limited((*big.Rat).Sub, p.DX, q.DX), limited((*big.Rat).Sub, p.DY, q.DY)
			valid = valid && !isZeroRat(weight) && !isZeroRat(dx) && !isZeroRat(dy)
			mesh = append(mesh, impl.Link{A: p.Node, B: q.Node, Weight: weight, DX: dx, DY: dy})
		}
	}
	if !valid || isZeroRat(sum) {
		return impl.Conditional{}, nil, false
	}
	return c, mesh, true
}

// reducedExactly returns what ReduceNode has to return for a link set.
func reducedExactly(set []impl.Link, v int) (impl.Conditional, []impl.Link, impl.Rat, bool) {
	c, mesh, ok := eliminatedExactly(set, v)
	_, rest := linksAt(set, v)
	energies := fraction("0")
	for _, k := range mesh {
		i, found := slices.BinarySearchFunc(rest, k, func(a, b impl.Link) int { return a.A*10 + a.B - b.A*10 - b.B })
		if !found {
			rest = slices.Insert(rest, i, k)
			continue
		}
		merged, energy, fine := mergedExactly(rest[i], k)
		rest[i] = merged
		energies = limited((*big.Rat).Add, energies, energy)
		ok = ok && fine
	}
	if !ok || isZeroRat(energies) {
		return impl.Conditional{}, nil, impl.Rat{}, false
	}
	return c, rest, energies, true
}

// appliedExactly returns what ApplyConditional has to return for a valid conditional and valid points for all parents.
func appliedExactly(c impl.Conditional, at []impl.Point) (impl.Point, bool) {
	best := point("0", "0")
	for _, p := range c.Parents {
		x := limited((*big.Rat).Mul, p.Share, limited((*big.Rat).Add, at[p.Node].X, p.DX))
		y := limited((*big.Rat).Mul, p.Share, limited((*big.Rat).Add, at[p.Node].Y, p.DY))
		best = impl.Point{X: limited((*big.Rat).Add, best.X, x), Y: limited((*big.Rat).Add, best.Y, y)}
	}
	if isZeroRat(best.X) || isZeroRat(best.Y) {
		return impl.Point{}, false
	}
	return best, true
}

// checkElimination compares EliminateNode and ReduceNode with the computation of math/big, and reports whether they succeed.
func checkElimination(t *testing.T, set []impl.Link, v int) (bool, bool) {
	t.Helper()
	wantC, wantMesh, wantOk := eliminatedExactly(set, v)
	c, mesh, ok := impl.EliminateNode(set, v)
	if ok != wantOk || !equalConditional(c, wantC) || !equalLinks(mesh, wantMesh) {
		t.Errorf("EliminateNode(%v, %d) = %v, %v, %v, want %v, %v, %v", set, v, c, mesh, ok, wantC, wantMesh, wantOk)
	}
	if ok && (!impl.IsValidConditional(c) || !impl.IsLinkSet(mesh)) {
		t.Errorf("EliminateNode(%v, %d) = %v, %v, which is not valid", set, v, c, mesh)
	}
	wantC, wantRest, wantEnergy, wantFine := reducedExactly(set, v)
	c, rest, energy, fine := impl.ReduceNode(set, v)
	if fine != wantFine || !equalConditional(c, wantC) || !equalLinks(rest, wantRest) || !sameRat(energy, wantEnergy) {
		t.Errorf("ReduceNode(%v, %d) = %v, %v, %v, %v, want %v, %v, %v, %v", set, v, c, rest, energy, fine, wantC, wantRest, wantEnergy, wantFine)
	}
	if fine && !impl.IsLinkSet(rest) {
		t.Errorf("ReduceNode(%v, %d) leaves %v, which is no link set", set, v, rest)
	}
	return ok, fine
}

func checkEliminateFails(t *testing.T, name string, set []impl.Link, v int) {
	t.Helper()
	if c, mesh, ok := impl.EliminateNode(set, v); ok || !isZeroConditional(c) || len(mesh) > 0 {
		t.Errorf("%s: EliminateNode(%s, %d) = %v, %v, %v", name, pairsIn(set), v, c, mesh, ok)
	}
	checkReduceFails(t, name, set, v)
}

func checkReduceFails(t *testing.T, name string, set []impl.Link, v int) {
	t.Helper()
	if c, rest, energy, ok := impl.ReduceNode(set, v); ok || !isZeroConditional(c) || len(rest) > 0 || !isZeroRat(energy) {
		t.Errorf("%s: ReduceNode(%s, %d) = %v, %v, %v, %v", name, pairsIn(set), v, c, rest, energy, ok)
	}
}

// starOfNine returns the links of v with all other nodes.
func starOfNine(v int) []impl.Link {
	at, _ := linksAt(allLinks(), v)
	return at
}

// validConditionals returns the texts of valid conditionals in the form of FormatConditional.
func validConditionals() []string {
	nines, zeros := strings.Repeat("9", 216), strings.Repeat("0", 215)
	return []string{
		"1 2 0:1/2:0:0 2:1/2:-4:0",
		"1 1 0:1:0:0",
		"1 1 2:1:0:0",
		"1 1 9:1:3:-4",
		"9 5/7 0:1:1/2:-1/3",
		"9 1/1000000007 8:1:1000000:-1000000",
		"5 12 0:1/3:1:2 4:1/6:-1:-2 6:1/2:3/5:0",
		"5 1 0:1/9:0:0 1:1/9:1:1 2:1/9:2:2 3:1/9:3:3 4:1/9:4:4 6:1/9:6:6 7:1/9:7:7 8:1/9:8:8 9:1/9:9:9",
		"3 " + nines + " 0:1:" + nines + ":-" + nines,
		"3 1/" + nines + " 0:1:1/" + nines + ":-1/" + nines,
		"3 1 1:1/" + nines + ":0:0 2:" + nines[1:] + "8/" + nines + ":0:0",
		"3 1 1:1/1" + zeros + ":0:0 2:" + nines[1:] + "/1" + zeros + ":0:0",
	}
}

// invalidConditionals returns conditionals of which one field, or several, are not valid.
func invalidConditionals() map[string]impl.Conditional {
	l := map[string]impl.Conditional{"the zero value": {}}
	for _, node := range []int{math.MinInt, -1, 0, 10, 11, math.MaxInt} {
		c := conditional("5 2 1:1/2:0:0 2:1/2:-4:0")
		c.Node = node
		l[fmt.Sprintf("Node %d", node)] = c
		c = conditional("5 2 1:1:0:0")
		if c.Parents[0].Node = node; node != 0 {
			l[fmt.Sprintf("parent %d", node)] = c
		}
	}
	for name, text := range map[string]string{
		"Total 0":                      "1 0 0:1/2:0:0 2:1/2:-4:0",
		"negative Total":               "1 -2 0:1/2:0:0 2:1/2:-4:0",
		"negative fraction as Total":   "1 -1/2 0:1/2:0:0 2:1/2:-4:0",
		"no parents":                   "1 2",
		"parents in another order":     "1 2 2:1/2:-4:0 0:1/2:0:0",
		"the last parents exchanged":   "1 2 0:1/2:0:0 3:1/4:-4:0 2:1/4:-4:0",
		"a parent twice":               "1 2 2:1/2:0:0 2:1/2:0:0",
		"a parent twice, not the same": "1 2 0:1/2:0:0 2:1/4:0:0 2:1/4:-4:0",
		"a parent twice, apart":        "1 2 0:1/3:0:0 2:1/3:0:0 0:1/3:0:0",
		"Node as its only parent":      "1 2 1:1:0:0",
		"Node as its first parent":     "1 2 1:1/2:0:0 2:1/2:-4:0",
		"Node as its last parent":      "2 2 0:1/2:0:0 2:1/2:-4:0",
		"Node among its parents":       "2 2 0:1/2:0:0 2:1/4:-4:0 3:1/4:0:0",
		"a negative parent":            "1 2 -1:1/2:0:0 2:1/2:-4:0",
		"a parent that is MaxNodes":    "1 2 0:1/2:0:0 10:1/2:-4:0",
		"one Share below 1":            "1 2 0:1/2:0:0",
		"one Share above 1":            "1 2 0:2:0:0",
		"Shares below 1":               "1 2 0:1/2:0:0 2:1/3:-4:0",
		"Shares above 1":               "1 2 0:1/2:0:0 2:2/3:-4:0",
		"Shares of 1 before the last":  "1 2 0:1/2:0:0 2:1/2:-4:0 3:1/2:0:0",
		"Shares little below 1":        "1 2 0:1e-200:0:0 2:1/2:-4:0 3:1/2:0:0",
		"Share 0":                      "1 2 0:0:0:0 2:1:-4:0",
		"Share 0 behind":               "1 2 0:1:0:0 2:0:-4:0",
		"only Share 0":                 "1 2 0:0:0:0",
		"negative Share":               "1 2 0:-1/2:0:0 2:3/2:-4:0",
		"negative Share behind":        "1 2 0:3/2:0:0 2:-1/2:-4:0",
		"negative Shares":              "1 2 0:-1/2:0:0 2:-1/2:-4:0",
	} {
		l[name] = conditional(text)
	}
	for i, r := range invalidRats() {
		for place := range 7 {
			c := conditional("1 2 0:1/2:0:0 2:1/2:-4:0")
			*conditionalRats(&c)[place] = r
			l[fmt.Sprintf("invalid fraction %d at %d", i, place)] = c
		}
		for place := range 4 {
			c := conditional("1 2 0:1:0:0")
			*conditionalRats(&c)[place] = r
			l[fmt.Sprintf("invalid fraction %d at %d of one parent", i, place)] = c
		}
	}
	return l
}

// P18.
func TestIsValidConditional(t *testing.T) {
	for _, text := range validConditionals() {
		if !impl.IsValidConditional(conditional(text)) {
			t.Errorf("IsValidConditional(%s) = false", text)
		}
	}
	for name, c := range invalidConditionals() {
		if impl.IsValidConditional(c) {
			t.Errorf("%s: IsValidConditional(%v) = true", name, c)
		}
	}
	if impl.IsValidConditional(impl.Conditional{Node: 1, Total: fraction("1"), Parents: []impl.Parent{}}) {
		t.Error("a conditional with an empty list of parents is valid")
	}
}

// P18.
func TestIsValidConditionalOfAllNodes(t *testing.T) {
	nodes := graphNodes()
	for _, v := range nodes {
		for _, first := range nodes {
			for _, second := range nodes {
				c := conditional("5 2 0:1/3:1:2 2:2/3:-4:0")
				c.Node, c.Parents[0].Node, c.Parents[1].Node = v, first, second
				want := v >= 1 && v <= 9 && first >= 0 && first < second && second <= 9 && first != v && second != v
				if got := impl.IsValidConditional(c); got != want {
					t.Errorf("IsValidConditional of %d with the parents %d and %d = %v", v, first, second, got)
				}
			}
			c := conditional("5 2 0:1:1:2")
			c.Node, c.Parents[0].Node = v, first
			if got, want := impl.IsValidConditional(c), v >= 1 && v <= 9 && first >= 0 && first <= 9 && first != v; got != want {
				t.Errorf("IsValidConditional of %d with the parent %d = %v", v, first, got)
			}
		}
	}
}

// P18.
func TestIsValidConditionalOfFractions(t *testing.T) {
	for _, r := range sampleRats() {
		positive := quotientOf(r).Sign() > 0
		for place := range 7 {
			c := conditional("4 2 0:1/2:0:0 9:1/2:-4:0")
			*conditionalRats(&c)[place] = r
			want := true
			switch place {
			case 0:
				want = positive
			case 1, 4:
				want = sameRat(r, fraction("1/2"))
			}
			if got := impl.IsValidConditional(c); got != want {
				t.Errorf("IsValidConditional with %v at %d = %v", r, place, got)
			}
		}
		// The other Share makes the sum 1.
		c := conditional("4 2 0:1/2:0:0 9:1/2:-4:0")
		c.Parents[0].Share = r
		c.Parents[1].Share = ratOf(new(big.Rat).Sub(big.NewRat(1, 1), quotientOf(r)))
		want := positive && quotientOf(r).Cmp(big.NewRat(1, 1)) < 0
		if got := impl.IsValidConditional(c); got != want {
			t.Errorf("IsValidConditional with the Shares %v and %v = %v", r, c.Parents[1].Share, got)
		}
	}
}

// sharesApart returns four weights whose sum is 4. The first two, divided by it, have a sum with the denominator 2 * p * (p +
// 2), and all other fractions that an elimination needs are smaller.
func sharesApart(p *big.Int) [4]impl.Rat {
	q := new(big.Int).Add(p, big.NewInt(2))
	// Two fifths of p and q, so that the products of what is left of them stay small as well.
	x := new(big.Int).Div(new(big.Int).Mul(p, big.NewInt(2)), big.NewInt(5))
	y := new(big.Int).Add(x, big.NewInt(1))
	double := func(n, d *big.Int) impl.Rat { return ratOf(new(big.Rat).SetFrac(new(big.Int).Add(n, n), d)) }
	return [4]impl.Rat{double(x, p), double(y, q), double(new(big.Int).Sub(p, x), p), double(new(big.Int).Sub(q, y), q)}
}

// P18. The sum of the Shares is 1 in any order, but in some orders it is too large on the way.
func TestSharesThatAreTooLargeOnTheWay(t *testing.T) {
	for _, c := range []struct {
		p     string
		order [4]int
		want  bool
	}{
		{"60", [4]int{0, 1, 2, 3}, true},
		{"60", [4]int{1, 0, 3, 2}, true},
		{"77", [4]int{0, 1, 2, 3}, false},
		{"77", [4]int{1, 0, 3, 2}, false},
		{"77", [4]int{0, 2, 1, 3}, true},
		{"77", [4]int{3, 1, 2, 0}, true},
	} {
		p, _ := new(big.Int).SetString(c.p+strings.Repeat("0", 105)+"1", 10)
		weights := sharesApart(p)
		built := impl.Conditional{Node: 5, Total: fraction("4")}
		var set []impl.Link
		for i, node := range []int{0, 2, 6, 9} {
			weight := weights[c.order[i]]
			share := limited((*big.Rat).Quo, weight, built.Total)
			built.Parents = append(built.Parents, impl.Parent{Node: node, Share: share, DX: fraction("0"), DY: fraction("0")})
			set = append(set, impl.Link{A: min(node, 5), B: max(node, 5), Weight: weight, DX: fraction("0"), DY: fraction("0")})
		}
		if sum := limited((*big.Rat).Add, set[0].Weight, set[1].Weight); isZeroRat(sum) {
			t.Errorf("the weights in the order %v are too large, and not only the Shares", c.order)
		}
		if got := impl.IsValidConditional(built); got != c.want {
			t.Errorf("IsValidConditional of the Shares in the order %v = %v", c.order, got)
		}
		if ok, fine := checkElimination(t, set, 5); ok != c.want || fine != c.want {
			t.Errorf("EliminateNode and ReduceNode of the weights in the order %v = %v, %v", c.order, ok, fine)
		}
		zeros := slices.Repeat([]impl.Point{point("0", "0")}, 10)
		if got, ok := impl.ApplyConditional(built, zeros); ok != c.want {
			t.Errorf("ApplyConditional of the Shares in the order %v = %v, %v", c.order, got, ok)
		}
		if got := impl.FormatConditional(built); (got != "") != c.want {
			t.Errorf("FormatConditional of the Shares in the order %v = %q", c.order, got)
		}
	}
}

// P4, P18.
func TestEliminateNode(t *testing.T) {
	cases := []struct {
		name string
		set  []string
		v    int
		want string
		mesh []string
	}{
		{"between two", []string{"0-1 1 0 0", "0-2 1 7 0", "1-2 1 4 0"}, 1, "1 2 0:1/2:0:0 2:1/2:-4:0", []string{"0-2 1/2 4 0"}},
		{"above two", []string{"0-1 1 0 0", "0-2 1 7 0", "1-2 1 4 0"}, 2, "2 2 0:1/2:7:0 1:1/2:4:0", []string{"0-1 1/2 3 0"}},
		{"below two", []string{"1-2 1 3 4", "1-9 3 -5 1/2"}, 1, "1 4 2:1/4:-3:-4 9:3/4:5:-1/2", []string{"2-9 3/4 -8 -7/2"}},
		{"one neighbor below", []string{"0-1 2/3 5 -6"}, 1, "1 2/3 0:1:5:-6", nil},
		{"one neighbor above", []string{"1-9 2/3 5 -6"}, 1, "1 2/3 9:1:-5:6", nil},
		{"the last node", []string{"0-1 1 1 1", "8-9 4 1/2 0"}, 9, "9 4 8:1:1/2:0", nil},
		{"three neighbors", []string{"0-4 1 1 2", "2-4 2 -1 0", "4-9 3 5 7"}, 4, "4 6 0:1/6:1:2 2:1/3:-1:0 9:1/2:-5:-7", []string{"0-2 1/3 2 2", "0-9 1/2 6 9", "2-9 1 4 7"}},
		{"links beside", []string{"0-2 5 5 5", "0-4 1 1 2", "2-4 2 -1 0", "2-9 1 1 1"}, 4, "4 3 0:1/3:1:2 2:2/3:-1:0", []string{"0-2 2/3 2 2"}},
	}
	for _, c := range cases {
		got, mesh, ok := impl.EliminateNode(links(c.set...), c.v)
		if !ok || !equalConditional(got, conditional(c.want)) || !equalLinks(mesh, links(c.mesh...)) {
			t.Errorf("%s: EliminateNode = %v, %v, %v, want %s, %v", c.name, got, mesh, ok, c.want, c.mesh)
		}
		if text := impl.FormatConditional(got); text != c.want {
			t.Errorf("%s: FormatConditional = %q, want %q", c.name, text, c.want)
		}
	}
}

// P4, P18.
func TestReduceNode(t *testing.T) {
	cases := []struct {
		name   string
		set    []string
		v      int
		want   string
		rest   []string
		energy string
	}{
		{"a pair with a link", []string{"0-1 1 0 0", "0-2 1 7 0", "1-2 1 4 0"}, 1, "1 2 0:1/2:0:0 2:1/2:-4:0", []string{"0-2 3/2 6 0"}, "3"},
		{"a pair without a link", []string{"0-1 1 0 0", "1-2 1 4 0"}, 1, "1 2 0:1/2:0:0 2:1/2:-4:0", []string{"0-2 1/2 4 0"}, "0"},
		{"a pair with the same link", []string{"0-1 1 0 0", "0-2 3/2 4 0", "1-2 1 4 0"}, 1, "1 2 0:1/2:0:0 2:1/2:-4:0", []string{"0-2 2 4 0"}, "0"},
		{"one neighbor", []string{"0-1 1 0 0", "1-2 1 4 0"}, 2, "2 1 1:1:4:0", []string{"0-1 1 0 0"}, "0"},
		{"the only link", []string{"0-1 2/3 5 -6"}, 1, "1 2/3 0:1:5:-6", nil, "0"},
		{"some pairs with links", []string{"0-2 2/3 5 2", "0-4 1 1 2", "2-4 2 -1 0", "2-9 1 4 3", "4-9 3 5 7", "8-9 1 1 1"}, 4, "4 6 0:1/6:1:2 2:1/3:-1:0 9:1/2:-5:-7", []string{"0-2 1 4 2", "0-9 1/2 6 9", "2-9 2 4 5", "8-9 1 1 1"}, "10"},
		{"a link between other nodes", []string{"0-1 1 1 1", "0-9 2 2 2", "1-9 1 0 0", "3-4 7 7 7"}, 9, "9 3 0:2/3:2:2 1:1/3:0:0", []string{"0-1 5/3 7/5 7/5", "3-4 7 7 7"}, "4/5"},
	}
	for _, c := range cases {
		got, rest, energy, ok := impl.ReduceNode(links(c.set...), c.v)
		if !ok || !equalConditional(got, conditional(c.want)) || !equalLinks(rest, links(c.rest...)) || !sameRat(energy, fraction(c.energy)) {
			t.Errorf("%s: ReduceNode = %v, %v, %v, %v, want %s, %v, %s", c.name, got, rest, energy, ok, c.want, c.rest, c.energy)
		}
		checkElimination(t, links(c.set...), c.v)
	}
}

// P4, P18. One neighbor, for every two nodes: the conditional is the link itself, seen from the neighbor.
func TestEliminateNodeWithOneNeighbor(t *testing.T) {
	for _, k := range allLinks() {
		for _, v := range []int{k.A, k.B} {
			set := []impl.Link{k}
			if ok, fine := checkElimination(t, set, v); ok != (v > 0) || fine != ok {
				t.Errorf("elimination of %d from %s: %v, %v", v, impl.FormatLink(k), ok, fine)
			}
			c, mesh, ok := impl.EliminateNode(set, v)
			if ok && (len(c.Parents) != 1 || c.Parents[0].Node != k.A+k.B-v || !sameRat(c.Parents[0].Share, fraction("1")) || !sameRat(c.Total, k.Weight) || len(mesh) > 0) {
				t.Errorf("EliminateNode(%s, %d) = %v, %v", impl.FormatLink(k), v, c, mesh)
			}
		}
	}
}

// P4, P18. MaxNodes - 1 neighbors, in a star and with links for all pairs.
func TestEliminateNodeWithAllNeighbors(t *testing.T) {
	for v := range 10 {
		for _, set := range [][]impl.Link{starOfNine(v), allLinks()} {
			if ok, fine := checkElimination(t, set, v); ok != (v > 0) || fine != ok {
				t.Errorf("elimination of %d from %s: %v, %v", v, pairsIn(set), ok, fine)
			}
			c, mesh, ok := impl.EliminateNode(set, v)
			if ok && (len(c.Parents) != 9 || len(mesh) != 36) {
				t.Errorf("EliminateNode of %d has %d parents and %d links", v, len(c.Parents), len(mesh))
			}
			if _, rest, _, ok := impl.ReduceNode(set, v); ok && pairsIn(rest) != pairsIn(mesh) {
				t.Errorf("ReduceNode of %d leaves %s", v, pairsIn(rest))
			}
		}
	}
}

// P4, P18.
func TestEliminateNodeOfEverySmallSet(t *testing.T) {
	for _, set := range everySmallSet() {
		for _, v := range []int{0, 1, 4, 5, 9, 10} {
			ok, fine := checkElimination(t, set, v)
			if want := v > 0 && len(linkedBy(set).of(v)) > 0; ok != want || fine != want {
				t.Errorf("elimination of %d from %s: %v, %v", v, pairsIn(set), ok, fine)
			}
		}
	}
}

// P18. With more limbs, some results are too large.
func TestEliminateNodeOfRandomSets(t *testing.T) {
	r := rand.New(rand.NewSource(31))
	counts := map[[2]bool]int{}
	for n := range 150 {
		set := randomSet(r, 10+n%50)
		for i, k := range set {
			set[i] = randomLink(r, k.A, k.B, 1+n%7)
		}
		ok, fine := checkElimination(t, set, 1+r.Intn(9))
		counts[[2]bool{ok, fine}]++
	}
	if counts[[2]bool{true, true}] < 20 || counts[[2]bool{true, false}] < 10 || counts[[2]bool{false, false}] < 20 {
		t.Errorf("the successes of EliminateNode and ReduceNode: %v", counts)
	}
}

// P18. In each group of cases, one result is just valid and then just too large.
func TestEliminateNodeAtTheLimit(t *testing.T) {
	nines := strings.Repeat("9", 216)
	eights := nines[1:] + "8"
	for _, c := range []struct {
		name     string
		set      []string
		ok, fine bool
	}{
		{"Total", []string{"0-1 " + eights + " 0 0", "1-2 1 0 0"}, true, true},
		{"Total", []string{"0-1 " + nines + " 0 0", "1-2 1 0 0"}, false, false},
		{"Total of one link", []string{"0-1 " + nines + " 0 0"}, true, true},
		{"denominator of Total", []string{"0-1 1e-100 0 0", "1-2 1/7 0 0"}, true, true},
		{"denominator of Total", []string{"0-1 1e-215 0 0", "1-2 1/11 0 0"}, false, false},
		{"Total on the way", []string{"0-1 1e-215 0 0", "1-2 1/11 0 0", "1-3 10/11 0 0"}, false, false},
		{"product of the weights", []string{"0-1 1e107 0 0", "1-2 1e107 0 0"}, true, true},
		{"product of the weights", []string{"0-1 1e108 0 0", "1-2 1e108 0 0"}, false, false},
		{"product of the last weights", []string{"0-1 1 0 0", "1-2 1e108 0 0", "1-3 1e108 0 0"}, false, false},
		{"product of small weights", []string{"0-1 1e-107 0 0", "1-2 1e-107 0 0"}, true, true},
		{"product of small weights", []string{"0-1 1e-108 0 0", "1-2 1e-108 0 0"}, false, false},
		{"DX of one link", []string{"0-1 1 " + nines + " 0"}, true, true},
		{"DX of one link to the parent", []string{"1-2 1 -" + nines + " 0"}, true, true},
		{"DX of both links", []string{"0-1 1 " + eights + " 0", "1-2 1 1 0"}, true, true},
		{"DX of both links", []string{"0-1 1 " + nines + " 0", "1-2 1 1 0"}, false, false},
		{"DX of both links to the parents", []string{"1-2 1 " + nines + " 0", "1-3 1 -1 0"}, false, false},
		{"DX of both links with one sign", []string{"1-2 1 " + nines + " 0", "1-3 1 1 0"}, true, true},
		{"denominator of DX", []string{"0-1 1 1e-215 0", "1-2 1 1/11 0"}, false, false},
		{"DY of both links", []string{"0-1 1 0 -" + eights, "1-2 1 0 -1"}, true, true},
		{"DY of both links", []string{"0-1 1 0 -" + nines, "1-2 1 0 -1"}, false, false},
		{"DY of the last links", []string{"0-1 1 0 0", "1-2 1 0 " + nines, "1-3 1 0 -1"}, false, false},
		{"Weight of the merged links", []string{"0-1 2 0 0", "0-2 " + eights + " 0 0", "1-2 2 0 0"}, true, true},
		{"Weight of the merged links", []string{"0-1 2 0 0", "0-2 " + nines + " 0 0", "1-2 2 0 0"}, true, false},
		{"DX of the merged links", []string{"0-1 1 0 0", "0-2 1/2 " + eights[:215] + "7 0", "1-2 1 " + nines + " 0"}, true, true},
		{"DX of the merged links", []string{"0-1 1 0 0", "0-2 1/2 " + eights + " 0", "1-2 1 " + nines + " 0"}, true, false},
		{"DY of the merged links", []string{"0-1 1 0 0", "0-2 1/2 0 " + eights, "1-2 1 0 " + nines}, true, false},
		{"energy of the merged links", []string{"0-1 4 0 0", "0-2 2 " + nines[:108] + " 0", "1-2 4 0 0"}, true, true},
		{"energy of the merged links", []string{"0-1 4 0 0", "0-2 2 1e108 0", "1-2 4 0 0"}, true, false},
		{"energy of the merged links in DY", []string{"0-1 4 0 0", "0-2 2 0 1e108", "1-2 4 0 0"}, true, false},
		{"sum of the energies", []string{"0-1 6 0 0", "0-2 2 7e107 0", "1-2 6 0 0", "1-3 6 0 0", "2-3 2 7e107 0"}, true, true},
		{"sum of the energies", []string{"0-1 6 0 0", "0-2 2 7e107 0", "1-2 6 0 0", "1-3 6 0 0", "2-3 2 0 8e107"}, true, false},
		{"a great link elsewhere", []string{"0-1 1 0 0", "0-3 " + nines + " -" + nines + " " + nines, "1-2 1 0 0"}, true, true},
	} {
		ok, fine := checkElimination(t, links(c.set...), 1)
		if ok != c.ok || fine != c.fine {
			t.Errorf("%s: the successes of EliminateNode and ReduceNode: %v, %v", c.name, ok, fine)
		}
	}
}

// P18.
func TestEliminateNodeThatIsNotThere(t *testing.T) {
	sets := [][]impl.Link{nil, {}, pairSet("0-1"), pairSet("8-9"), pairSet("0-1", "1-2", "2-9"), starOfNine(0), starOfNine(5), allLinks()}
	for _, set := range sets {
		for _, v := range graphNodes() {
			if v < 1 || v > 9 || len(linkedBy(set).of(v)) == 0 {
				checkEliminateFails(t, "no such node", set, v)
			}
		}
	}
	// The last node of a component that node 0 is not part of has no neighbors left.
	_, rest, _, ok := impl.ReduceNode(pairSet("0-5", "1-2"), 1)
	if !ok || pairsIn(rest) != "0-5" {
		t.Errorf("ReduceNode = %s, %v", pairsIn(rest), ok)
	}
	checkEliminateFails(t, "no neighbors left", rest, 2)
}

// noLinkSets returns lists that are no link sets.
func noLinkSets() map[string][]impl.Link {
	twice := allLinks()
	lists := map[string][]impl.Link{
		"the greater A first":         pairSet("1-2", "0-1"),
		"the greater B first":         pairSet("1-3", "1-2"),
		"one link twice":              links("0-1 1 0 0", "0-1 1 0 0"),
		"two links for one pair":      pairSet("0-1", "0-1"),
		"two links for the last pair": append(twice, twice[44]),
		"ends exchanged":              pairSet("0-1", "2-1"),
		"other links exchanged":       pairSet("0-1", "8-9", "7-9"),
	}
	for i, k := range invalidLinks() {
		lists[fmt.Sprintf("invalid link %d alone", i)] = []impl.Link{k}
		lists[fmt.Sprintf("invalid link %d first", i)] = append([]impl.Link{k}, pairSet("0-2", "1-2")...)
		lists[fmt.Sprintf("invalid link %d last", i)] = append(pairSet("0-1", "0-2"), k)
	}
	// The ends of the invalid link are in order, whether they are neighbors of a node or not.
	for _, i := range []int{0, 1, 22, 44} {
		for field := range 3 {
			for j, r := range invalidRats() {
				l := allLinks()
				*linkRats(&l[i])[field] = r
				lists[fmt.Sprintf("link %d with the invalid fraction %d at %d", i, j, field)] = l
			}
		}
	}
	return lists
}

// P18.
func TestEliminateNodeRejectsListsThatAreNoLinkSets(t *testing.T) {
	for name, l := range noLinkSets() {
		for _, v := range []int{math.MinInt, 0, 1, 2, 9, 10} {
			checkEliminateFails(t, name, l, v)
		}
	}
}

// placed returns the positions with v at p.
func placed(at []impl.Point, v int, p impl.Point) []impl.Point {
	at = slices.Clone(at)
	at[v] = p
	return at
}

// P4. For any positions of the neighbors, the links of v at its best position have the energy of the new links. At any other
// position, they have as much more as a link from the best position with the weight Total.
func TestEliminateNodePreservesTheLeastEnergy(t *testing.T) {
	r := rand.New(rand.NewSource(32))
	for n := range 60 {
		set, _, _ := impl.JoinLinks(randomLinks(r, 2+n%9, 1+n))
		for _, v := range impl.NodesOf(set) {
			c, mesh, ok := impl.EliminateNode(set, v)
			_, rest, energy, fine := impl.ReduceNode(set, v)
			if !ok || !fine {
				t.Fatalf("elimination of %d from %v: %v, %v", v, set, ok, fine)
			}
			spokes, _ := linksAt(set, v)
			for range 3 {
				at := randomPoints(r)
				best, ok := impl.ApplyConditional(c, placed(at, v, impl.Point{}))
				if !ok {
					t.Fatalf("ApplyConditional(%v) fails", c)
				}
				least := totalAt(t, spokes, placed(at, v, best))
				if after := totalAt(t, mesh, at); least.Cmp(after) != 0 {
					t.Errorf("without %d, the energy of %v is %v instead of %v", v, spokes, after, least)
				}
				reduced := totalAt(t, rest, at)
				if all := totalAt(t, set, placed(at, v, best)); all.Cmp(reduced.Add(reduced, quotientOf(energy))) != 0 {
					t.Errorf("without %d, the energy of %v is %v instead of %v", v, set, reduced, all)
				}
				away := squaredLength(quotientOf(best.X), quotientOf(at[v].X), quotientOf(best.Y), quotientOf(at[v].Y))
				least.Add(least, away.Mul(away, quotientOf(c.Total)))
				if got := totalAt(t, spokes, at); got.Cmp(least) != 0 {
					t.Errorf("with %d at %v, the energy of %v is %v instead of %v", v, at[v], spokes, got, least)
				}
			}
		}
	}
}

// isBalanced reports whether the links pull none of their ends but 0 away from its position. In a grounded set, these are the
// positions with the least energy.
func isBalanced(l []impl.Link, at []impl.Point) bool {
	var pull [10][2]big.Rat
	for _, k := range l {
		for axis, side := range [][3]impl.Rat{{at[k.A].X, at[k.B].X, k.DX}, {at[k.A].Y, at[k.B].Y, k.DY}} {
			q := new(big.Rat).Sub(quotientOf(side[1]), quotientOf(side[0]))
			q.Sub(q, quotientOf(side[2]))
			q.Mul(q, quotientOf(k.Weight))
			pull[k.A][axis].Add(&pull[k.A][axis], q)
			pull[k.B][axis].Sub(&pull[k.B][axis], q)
		}
	}
	for _, sums := range pull[1:] {
		if sums[0].Sign() != 0 || sums[1].Sign() != 0 {
			return false
		}
	}
	return true
}

// solvedBy eliminates all nodes of a grounded set in the given order, and returns the positions, from the last node back to the
// first, and the energy. The nodes outside the set are at the origin.
func solvedBy(t *testing.T, set []impl.Link, order []int) ([]impl.Point, *big.Rat) {
	t.Helper()
	total := new(big.Rat)
	var stack []impl.Conditional
	for _, v := range order {
		c, rest, energy, ok := impl.ReduceNode(set, v)
		if !ok {
			t.Fatalf("ReduceNode(%v, %d) fails", set, v)
		}
		stack = append(stack, c)
		set = rest
		total.Add(total, quotientOf(energy))
	}
	if len(set) > 0 {
		t.Fatalf("%v is left after the elimination of %v", set, order)
	}
	at := make([]impl.Point, 10)
	for i := range at {
		at[i] = point("0", "0")
	}
	for _, c := range slices.Backward(stack) {
		p, ok := impl.ApplyConditional(c, at)
		if !ok {
			t.Fatalf("ApplyConditional(%v) fails", c)
		}
		at[c.Node] = p
	}
	return at, total
}

// groundedLinks returns random links that connect all nodes up to a last one with node 0.
func groundedLinks(r *rand.Rand, nodes int, more int) []impl.Link {
	l := randomLinks(r, nodes, more)
	for b := 1; b < nodes; b++ {
		l = append(l, link(fmt.Sprintf("%d-%d %d/%d %d %d", r.Intn(b), b, 1+r.Intn(9), 1+r.Intn(3), r.Intn(41)-20, r.Intn(41)-20)))
	}
	return l
}

// groundedSet returns groundedLinks as a link set.
func groundedSet(r *rand.Rand, nodes int, more int) []impl.Link {
	set, _, _ := impl.JoinLinks(groundedLinks(r, nodes, more))
	return set
}

// P4. In any order of elimination, the positions are those with the least energy, and the energies have that sum. They are also
// the best positions for the links that are left when any one node is eliminated, and the conditional puts that node where it
// was.
func TestReduceNodePreservesThePositions(t *testing.T) {
	r := rand.New(rand.NewSource(33))
	for n := range 40 {
		set := groundedSet(r, 2+n%9, n/2)
		order := impl.NodesOf(set)
		at, total := solvedBy(t, set, order)
		if !isBalanced(set, at) || totalAt(t, set, at).Cmp(total) != 0 {
			t.Errorf("%v with the energy %v is not the solution of %v", at, total, set)
		}
		r.Shuffle(len(order), func(i, j int) { order[i], order[j] = order[j], order[i] })
		again, totalAgain := solvedBy(t, set, order)
		if !equalPoints(again, at) || total.Cmp(totalAgain) != 0 {
			t.Errorf("in the order %v, the solution of %v is %v, %v instead of %v, %v", order, set, again, totalAgain, at, total)
		}
		for _, v := range order {
			c, rest, energy, ok := impl.ReduceNode(set, v)
			if !ok || !isBalanced(rest, at) || new(big.Rat).Add(totalAt(t, rest, at), quotientOf(energy)).Cmp(total) != 0 {
				t.Errorf("%v is not the solution of %v without %d", at, set, v)
			}
			if p, ok := impl.ApplyConditional(c, placed(at, v, impl.Point{})); !ok || !equalPoint(p, at[v]) {
				t.Errorf("the conditional %v puts the node at %v, %v", c, p, ok)
			}
		}
	}
}

// P4. Both orders of a triangle of links that do not fit together.
func TestReduceNodeByNode(t *testing.T) {
	for _, order := range [][]int{{1, 2}, {2, 1}} {
		at, total := solvedBy(t, links("0-1 1 0 0", "0-2 1 7 0", "1-2 1 4 0"), order)
		if !equalPoints(at[:3], []impl.Point{point("0", "0"), point("1", "0"), point("6", "0")}) || total.Cmp(big.NewRat(3, 1)) != 0 {
			t.Errorf("the positions are %v, with the energy %v", at, total)
		}
	}
}

// P4, P18.
func TestApplyConditional(t *testing.T) {
	cases := []struct {
		c    string
		at   []impl.Point
		x, y string
	}{
		{"1 2 0:1/2:0:0 2:1/2:-4:0", []impl.Point{point("0", "0"), {}, point("6", "0")}, "1", "0"},
		{"1 1 0:1:0:0", []impl.Point{point("0", "0")}, "0", "0"},
		{"1 1 0:1:3:-4", []impl.Point{point("1/2", "1/3")}, "7/2", "-11/3"},
		{"1 1 2:1:3:-4", []impl.Point{{}, {}, point("-3", "4")}, "0", "0"},
		{"2 9 0:1/3:1:2 1:2/3:4:5", []impl.Point{point("2", "1"), point("-1", "1")}, "3", "5"},
		{"3 1 0:1/6:1:2 2:1/3:-1:0 4:1/2:-5:-7", []impl.Point{point("0", "0"), {}, point("1", "1"), {}, point("10", "20")}, "8/3", "43/6"},
	}
	for _, c := range cases {
		// Total does not matter to the position, as long as it is valid.
		for _, total := range []string{"1", "1/1000000007", "1e215"} {
			built := conditional(c.c)
			built.Total = fraction(total)
			if got, ok := impl.ApplyConditional(built, c.at); !ok || !equalPoint(got, point(c.x, c.y)) {
				t.Errorf("ApplyConditional(%s, %v) = %v, %v, want %s, %s", c.c, c.at, got, ok, c.x, c.y)
			}
		}
	}
}

// P18. Some results are too large.
func TestApplyConditionalOfSamples(t *testing.T) {
	r := rand.New(rand.NewSource(34))
	counts := map[bool]int{}
	for n := range 200 {
		set := starOfNine(1 + n%9)
		for i, k := range set {
			set[i] = randomLink(r, k.A, k.B, 1)
		}
		r.Shuffle(len(set), func(i, j int) { set[i], set[j] = set[j], set[i] })
		set, _, _ = impl.JoinLinks(set[:1+n%5])
		c, _, ok := eliminatedExactly(set, 1+n%9)
		if !ok {
			t.Fatalf("%v has no conditional", set)
		}
		at := make([]impl.Point, 10)
		for i := range at {
			at[i] = impl.Point{X: randomRat(r, 1+n%12), Y: randomRat(r, 1+n%12)}
		}
		want, wantOk := appliedExactly(c, at)
		if got, ok := impl.ApplyConditional(c, at); ok != wantOk || !equalPoint(got, want) {
			t.Errorf("ApplyConditional(%v, %v) = %v, %v, want %v, %v", c, at, got, ok, want, wantOk)
		}
		counts[wantOk]++
	}
	if counts[true] < 50 || counts[false] < 50 {
		t.Errorf("the successes of ApplyConditional: %v", counts)
	}
}

func checkApplyFails(t *testing.T, name string, c impl.Conditional, at []impl.Point) {
	t.Helper()
	if got, ok := impl.ApplyConditional(c, at); ok || !equalPoint(got, impl.Point{}) {
		t.Errorf("%s: ApplyConditional(%v, %v) = %v, %v", name, c, at, got, ok)
	}
}

// P18. The greatest parent decides how many points there must be.
func TestApplyConditionalOfAllLengths(t *testing.T) {
	points := append(randomPoints(rand.New(rand.NewSource(35))), point("1", "1"), point("2", "2"))
	for _, c := range []struct {
		text string
		last int
	}{
		{"1 1 0:1:3:-4", 0}, {"5 2 0:1/2:0:0 2:1/2:-4:0", 2}, {"1 2 2:1/2:0:0 9:1/2:-4:0", 9}, {"9 2 0:1/2:0:0 8:1/2:-4:0", 8}, {"9 1 1:1:0:0", 1},
	} {
		built := conditional(c.text)
		want, _ := appliedExactly(built, points)
		for length := range len(points) + 1 {
			at := slices.Clone(points[:length])
			if length <= c.last {
				checkApplyFails(t, fmt.Sprintf("%d points", length), built, at)
				// Points behind the list do not belong to it.
				checkApplyFails(t, fmt.Sprintf("%d points and more behind them", length), built, points[:length])
				continue
			}
			if got, ok := impl.ApplyConditional(built, at); !ok || !equalPoint(got, want) {
				t.Errorf("ApplyConditional(%s) of %d points = %v, %v", c.text, length, got, ok)
			}
		}
		checkApplyFails(t, "nil", built, nil)
		checkApplyFails(t, "no points", built, []impl.Point{})
	}
}

// P18. Only the points of the parents count.
func TestApplyConditionalOfInvalidPoints(t *testing.T) {
	points := randomPoints(rand.New(rand.NewSource(36)))
	c := conditional("5 2 0:1/2:0:0 2:1/4:-4:0 7:1/4:1:1")
	want, _ := appliedExactly(c, points)
	for _, r := range invalidRats() {
		for i := range points {
			for _, p := range []impl.Point{{X: r, Y: points[i].Y}, {X: points[i].X, Y: r}, {X: r, Y: r}} {
				at := placed(points, i, p)
				if i == 0 || i == 2 || i == 7 {
					checkApplyFails(t, fmt.Sprintf("invalid point %d", i), c, at)
				} else if got, ok := impl.ApplyConditional(c, at); !ok || !equalPoint(got, want) {
					t.Errorf("ApplyConditional with the point %v at %d = %v, %v", p, i, got, ok)
				}
			}
		}
	}
}

// P18.
func TestApplyConditionalRejects(t *testing.T) {
	at := append(randomPoints(rand.New(rand.NewSource(37))), point("1", "1"), point("2", "2"))
	for name, c := range invalidConditionals() {
		checkApplyFails(t, name, c, at)
		checkApplyFails(t, name, c, nil)
	}
}

// P18. The same numbers are used as X and as Y.
func TestApplyConditionalAtTheLimit(t *testing.T) {
	nines, zeros := strings.Repeat("9", 216), strings.Repeat("0", 215)
	eights := nines[1:] + "8"
	cases := []struct{ name, c, first, second, third, want string }{
		{"position and DX", "9 1 0:1:1:1", eights, "0", "0", nines},
		{"position and DX", "9 1 0:1:1:1", nines, "0", "0", ""},
		{"position and DX", "9 1 0:1:-1:-1", "-" + nines, "0", "0", ""},
		{"position and DX", "9 1 0:1/2:1:1 1:1/2:0:0", nines, "0", "0", ""},
		{"Share times the numerator", "9 1 0:2/3:0:0 1:1/3:0:0", "4e215", "0", "0", "8" + zeros + "/3"},
		{"Share times the numerator", "9 1 0:2/3:0:0 1:1/3:0:0", "8e215", "0", "0", ""},
		{"Share times the numerator", "9 1 0:1/3:0:0 1:2/3:0:0", "0", "-8e215", "0", ""},
		{"Share times the denominator", "9 1 0:1/2:0:0 1:1/2:0:0", "1/4" + zeros, "0", "0", "1/8" + zeros},
		{"Share times the denominator", "9 1 0:1/2:0:0 1:1/2:0:0", "1/5" + zeros, "0", "0", ""},
		{"the sum", "9 1 0:1/2:0:0 1:1/2:0:0", nines, nines, "0", nines},
		{"the sum", "9 1 0:1/2:0:0 1:1/2:0:0", nines, eights, "0", ""},
		{"the sum on the way", "9 1 0:1/4:0:0 1:1/4:0:0 2:1/2:0:0", nines, nines, nines, nines},
		{"the sum on the way", "9 1 0:1/2:0:0 1:1/4:0:0 2:1/4:0:0", nines, nines, nines, ""},
		{"the sum on the way", "9 1 0:1/2:0:0 1:1/4:0:0 2:1/4:0:0", nines, "-" + nines, "-" + nines, "0"},
	}
	for _, c := range cases {
		built := conditional(c.c)
		numbers := []string{c.first, c.second, c.third}
		var both, onlyX, onlyY []impl.Point
		for _, number := range numbers {
			both = append(both, point(number, number))
			onlyX = append(onlyX, point(number, "0"))
			onlyY = append(onlyY, point("0", number))
		}
		if c.want == "" {
			for _, at := range [][]impl.Point{both, onlyX, onlyY} {
				checkApplyFails(t, c.name, built, at)
			}
			continue
		}
		want := fraction(c.want)
		if got, ok := impl.ApplyConditional(built, both); !ok || !sameRat(got.X, want) || !sameRat(got.Y, want) {
			t.Errorf("%s: ApplyConditional(%s, %v) = %v, %v", c.name, c.c, both, got, ok)
		}
		if got, ok := impl.ApplyConditional(built, onlyX); !ok || !sameRat(got.X, want) {
			t.Errorf("%s: ApplyConditional(%s, %v) = %v, %v", c.name, c.c, onlyX, got, ok)
		}
		if got, ok := impl.ApplyConditional(built, onlyY); !ok || !sameRat(got.Y, want) {
			t.Errorf("%s: ApplyConditional(%s, %v) = %v, %v", c.name, c.c, onlyY, got, ok)
		}
	}
}

// conditionalsThatDiffer returns conditionals that differ from 3 4 1:1/3:5:6 7:2/3:8:9 and from each other. Most of them differ
// in one field alone, and many are not valid.
func conditionalsThatDiffer() []impl.Conditional {
	var l []impl.Conditional
	for _, text := range []string{
		"4 4 1:1/3:5:6 7:2/3:8:9", "3 5 1:1/3:5:6 7:2/3:8:9", "3 1/4 1:1/3:5:6 7:2/3:8:9", "3 -4 1:1/3:5:6 7:2/3:8:9",
		"3 4 2:1/3:5:6 7:2/3:8:9", "3 4 1:2/3:5:6 7:2/3:8:9", "3 4 1:1/3:-5:6 7:2/3:8:9", "3 4 1:1/3:5:1/6 7:2/3:8:9",
		"3 4 1:1/3:5:6 8:2/3:8:9", "3 4 1:1/3:5:6 7:1/3:8:9", "3 4 1:1/3:5:6 7:2/3:1/8:9", "3 4 1:1/3:5:6 7:2/3:8:-9",
		"3 4 1:1/3:6:5 7:2/3:8:9", "3 4 1:1/3:5:6 7:2/3:9:8", "3 4 7:2/3:8:9 1:1/3:5:6", "3 4 1:1/3:5:6", "3 4 7:2/3:8:9", "3 4",
		"3 4 1:1/3:5:6 7:2/3:8:9 7:2/3:8:9", "3 4 1:1/3:5:6 7:2/3:8:9 8:1/3:8:9", "0 4 1:1/3:5:6 7:2/3:8:9", "-3 4 1:1/3:5:6 7:2/3:8:9",
	} {
		l = append(l, conditional(text))
	}
	for place := range 7 {
		for _, r := range []impl.Rat{{}, fractionOf(true, nil, []int{1}), fractionOf(false, []int{6}, []int{2}), fractionOf(false, []int{3, 0}, []int{1}), fractionOf(false, []int{3}, []int{1, 0})} {
			c := conditional("3 4 1:1/3:5:6 7:2/3:8:9")
			*conditionalRats(&c)[place] = r
			l = append(l, c)
		}
	}
	return append(l, impl.Conditional{})
}

// P18.
func TestSameConditional(t *testing.T) {
	// Two conditionals that are built apart have no memory in common.
	all := append([]impl.Conditional{conditional("3 4 1:1/3:5:6 7:2/3:8:9")}, conditionalsThatDiffer()...)
	again := append([]impl.Conditional{conditional("3 4 1:1/3:5:6 7:2/3:8:9")}, conditionalsThatDiffer()...)
	for i, a := range all {
		for j, b := range again {
			if got := impl.SameConditional(a, b); got != (i == j) {
				t.Errorf("SameConditional(%v, %v) = %v", a, b, got)
			}
		}
	}
	for _, text := range validConditionals() {
		for _, other := range validConditionals() {
			if got := impl.SameConditional(conditional(text), conditional(other)); got != (text == other) {
				t.Errorf("SameConditional(%s, %s) = %v", text, other, got)
			}
		}
	}
}

// P18. Chapter 1: a nil slice and an empty slice are equivalent.
func TestSameConditionalOfEmptySlices(t *testing.T) {
	empty := impl.Conditional{Total: fractionOf(false, []int{}, []int{}), Parents: []impl.Parent{}}
	if !impl.SameConditional(empty, impl.Conditional{}) || !impl.SameConditional(impl.Conditional{}, empty) {
		t.Error("SameConditional of the zero value and empty slices = false")
	}
	one := impl.Conditional{Parents: []impl.Parent{{}}}
	if impl.SameConditional(one, impl.Conditional{}) || impl.SameConditional(impl.Conditional{}, one) {
		t.Error("SameConditional of no parents and a parent that is the zero value = true")
	}
	zero := fractionOf(false, []int{}, []int{1})
	a, b := conditional("1 2 0:1:0:0"), conditional("1 2 0:1:0:0")
	a.Parents[0].DX, b.Parents[0].DX = zero, fraction("0")
	if !impl.SameConditional(a, b) || !impl.SameConditional(b, a) {
		t.Errorf("SameConditional(%v, %v) = false", a, b)
	}
}

// P18.
func TestFormatConditional(t *testing.T) {
	for _, text := range validConditionals() {
		if got := impl.FormatConditional(conditional(text)); got != text {
			t.Errorf("FormatConditional = %q, want %q", got, text)
		}
	}
	for name, c := range invalidConditionals() {
		if got := impl.FormatConditional(c); got != "" {
			t.Errorf("%s: FormatConditional(%v) = %q", name, c, got)
		}
	}
}

// guardedConditional returns c with its parents and rows at the front of longer arrays, the array of parents, and those of rows.
func guardedConditional(c impl.Conditional) (impl.Conditional, []impl.Parent, [][]int) {
	count := len(c.Parents)
	c.Parents = append(slices.Clone(c.Parents), conditional("1 1 5:1/2:3:4 0:1:0:0").Parents...)
	var rows [][]int
	for _, r := range conditionalRats(&c) {
		var more [][]int
		*r, more = guarded(*r)
		rows = append(rows, more...)
	}
	whole := c.Parents
	c.Parents = whole[:count]
	return c, whole, rows
}

// guardedPoints returns at the front of a longer array, that array, and all arrays of rows.
func guardedPoints(at []impl.Point) ([]impl.Point, []impl.Point, [][]int) {
	var whole []impl.Point
	var rows [][]int
	for _, p := range append(slices.Clone(at), point("1", "2"), point("3", "4")) {
		x, rowsX := guarded(p.X)
		y, rowsY := guarded(p.Y)
		whole = append(whole, impl.Point{X: x, Y: y})
		rows = append(rows, slices.Concat(rowsX, rowsY)...)
	}
	return whole[:len(at)], whole, rows
}

// starResult is what a function of the chapter returns, without its bool.
type starResult struct {
	c     impl.Conditional
	links []impl.Link
	rats  []impl.Rat
}

// spoil writes over all memory of the result, and reports whether its rows are apart.
func (s starResult) spoil() bool {
	rows := rowsOfLinks(s.links)
	for _, r := range conditionalRats(&s.c) {
		rows = append(rows, r.Num.Mag, r.Den)
	}
	for _, r := range s.rats {
		rows = append(rows, r.Num.Mag, r.Den)
	}
	apart := spoilRows(rows)
	clear(s.links[:cap(s.links)])
	clear(s.c.Parents[:cap(s.c.Parents)])
	return apart
}

func eliminated(set []impl.Link, v int) starResult {
	c, mesh, _ := impl.EliminateNode(set, v)
	return starResult{c: c, links: mesh}
}

func reduced(set []impl.Link, v int) starResult {
	c, rest, energy, _ := impl.ReduceNode(set, v)
	return starResult{c: c, links: rest, rats: []impl.Rat{energy}}
}

// Chapter 1: arguments and the capacity behind them stay as they are, and results share no memory with them or with each
// other.
func TestEliminateNodeMemory(t *testing.T) {
	sets := [][]impl.Link{
		nil, pairSet("0-1"), pairSet("1-9"), links("0-1 1 0 0", "0-2 1 7 0", "1-2 1 4 0"), links("0-1 1 0 0", "1-2 1 4 0", "2-9 1 1 1"),
		starOfNine(1), starOfNine(9), allLinks(), pairSet("1-2", "0-1"), pairSet("0-1", "0-1"), links("0-1 1 0 0", "1-2 0 0 0"),
		links("0-1 1e108 0 0", "1-2 1e108 0 0"), links("0-1 4 0 0", "0-2 2 1e108 0", "1-2 4 0 0"),
	}
	for name, run := range map[string]func([]impl.Link, int) starResult{"EliminateNode": eliminated, "ReduceNode": reduced} {
		for _, set := range sets {
			for _, v := range graphNodes() {
				list, whole, rows := guardedLinks(set)
				before, linksBefore := cloneRows(rows), slices.Clone(whole)
				if !run(list, v).spoil() {
					t.Fatalf("%s(%s, %d): slices of the result share memory", name, pairsIn(set), v)
				}
				if !sameRows(rows, before) || !equalLinks(whole, linksBefore) {
					t.Fatalf("%s(%s, %d): the arguments are changed", name, pairsIn(set), v)
				}
			}
		}
	}
}

// Chapter 1, as above.
func TestConditionalMemory(t *testing.T) {
	all := []impl.Conditional{}
	for _, text := range validConditionals() {
		all = append(all, conditional(text))
	}
	for _, c := range append(all, conditionalsThatDiffer()...) {
		for _, at := range [][]impl.Point{nil, randomPoints(rand.New(rand.NewSource(38)))[:3], make([]impl.Point, 10), randomPoints(rand.New(rand.NewSource(39)))} {
			guard, parents, rowsC := guardedConditional(c)
			points, whole, rowsAt := guardedPoints(at)
			rows := slices.Concat(rowsC, rowsAt)
			before, parentsBefore, pointsBefore := cloneRows(rows), slices.Clone(parents), slices.Clone(whole)
			p, _ := impl.ApplyConditional(guard, points)
			if !(starResult{rats: []impl.Rat{p.X, p.Y}}).spoil() {
				t.Fatalf("ApplyConditional(%v, %v): slices of the result share memory", c, at)
			}
			impl.IsValidConditional(guard)
			impl.FormatConditional(guard)
			impl.SameConditional(guard, guard)
			impl.SameConditional(guard, c)
			if !sameRows(rows, before) || !slices.EqualFunc(parents, parentsBefore, equalParent) || !equalPoints(whole, pointsBefore) {
				t.Fatalf("the arguments %v and %v are changed", c, at)
			}
		}
	}
}

// Chapter 1: no state is kept between calls, even if the results of earlier calls are written over.
func TestStarStateIsNotKept(t *testing.T) {
	set := allLinks()
	for range 3 {
		for v := range 10 {
			checkElimination(t, set, v)
			if !eliminated(set, v).spoil() || !reduced(set, v).spoil() {
				t.Errorf("elimination of %d: slices of the result share memory", v)
			}
		}
		p, ok := impl.ApplyConditional(conditional("1 1 0:1:0:0"), []impl.Point{point("1", "0")})
		if !ok || impl.FormatRat(p.X) != "1" || impl.FormatRat(p.Y) != "0" {
			t.Errorf("ApplyConditional = %v, %v", p, ok)
		}
		if !(starResult{rats: []impl.Rat{p.X, p.Y}}).spoil() {
			t.Error("ApplyConditional: slices of the result share memory")
		}
	}
}
