package tests

import (
	"fmt"
	"math"
	"math/big"
	"math/rand"
	"slices"
	"strings"
	"testing"

	"loop.example/g00810/impl"
)

func conditionals(texts ...string) []impl.Conditional {
	var net []impl.Conditional
	for _, text := range texts {
		net = append(net, conditional(text))
	}
	return net
}

// parentsIn shows the nodes of conditionals and of their parents, such as 1:0,2 2:0.
func parentsIn(net []impl.Conditional) string {
	var words []string
	for _, c := range net {
		var nodes []string
		for _, p := range c.Parents {
			nodes = append(nodes, fmt.Sprint(p.Node))
		}
		words = append(words, fmt.Sprintf("%d:%s", c.Node, strings.Join(nodes, ",")))
	}
	return strings.Join(words, " ")
}

// netOf returns valid conditionals for texts in the form of parentsIn. They differ in all fields.
func netOf(texts ...string) []impl.Conditional {
	var net []impl.Conditional
	for i, text := range texts {
		node, rest, _ := strings.Cut(text, ":")
		parents := strings.Split(rest, ",")
		total := len(parents) * (len(parents) + 1) / 2
		words := []string{node, fmt.Sprintf("%d/3", i+1)}
		for j, parent := range parents {
			words = append(words, fmt.Sprintf("%s:%d/%d:%d:-%d/2", parent, j+1, total, i-j, 3*i+j))
		}
		net = append(net, conditional(strings.Join(words, " ")))
	}
	return net
}

func equalNets(a, b []impl.Conditional) bool { return slices.EqualFunc(a, b, equalConditional) }

// isNetOfParents reports whether valid conditionals are a net: it looks for each parent behind the conditional, and for each
// Node everywhere.
func isNetOfParents(net []impl.Conditional) bool {
	for i, c := range net {
		for j, other := range net {
			if i != j && c.Node == other.Node {
				return false
			}
		}
		for _, p := range c.Parents {
			isParent := func(later impl.Conditional) bool { return later.Node == p.Node }
			if p.Node != 0 && !slices.ContainsFunc(net[i+1:], isParent) {
				return false
			}
		}
	}
	return true
}

// allEliminatedExactly returns what EliminateAll has to return for a link set and an order of it.
func allEliminatedExactly(set []impl.Link, order []int) ([]impl.Conditional, impl.Rat, bool) {
	var net []impl.Conditional
	sum := fraction("0")
	for _, v := range order {
		c, rest, energy, ok := reducedExactly(set, v)
		if !ok {
			return nil, impl.Rat{}, false
		}
		net, set = append(net, c), rest
		sum = limited((*big.Rat).Add, sum, energy)
	}
	if isZeroRat(sum) {
		return nil, impl.Rat{}, false
	}
	return net, sum, true
}

// netSolvedExactly returns what SolveNet has to return for a net.
func netSolvedExactly(net []impl.Conditional) ([]impl.Point, bool) {
	all := make([]impl.Point, 10)
	all[0] = point("0", "0")
	greatest := 0
	for _, c := range slices.Backward(net) {
		best, ok := appliedExactly(c, all)
		if !ok {
			return nil, false
		}
		all[c.Node] = best
		greatest = max(greatest, c.Node)
	}
	return all[:greatest+1], true
}

// totalExactly returns what TotalEnergy has to return for valid links and a list with valid points for their ends.
func totalExactly(l []impl.Link, at []impl.Point) (impl.Rat, bool) {
	sum := fraction("0")
	for _, k := range l {
		energy := energyExactly(k, at[k.A], at[k.B])
		if isZeroRat(energy) {
			return impl.Rat{}, false
		}
		sum = limited((*big.Rat).Add, sum, energy)
	}
	return sum, !isZeroRat(sum)
}

// joinedExactly returns what JoinLinks has to return for valid links.
func joinedExactly(l []impl.Link) ([]impl.Link, impl.Rat, bool) {
	var set []impl.Link
	sum := fraction("0")
	for _, k := range l {
		i := slices.IndexFunc(set, func(other impl.Link) bool { return other.A == k.A && other.B == k.B })
		if i < 0 {
			set = append(set, k)
			continue
		}
		merged, energy, ok := mergedExactly(set[i], k)
		sum = limited((*big.Rat).Add, sum, energy)
		if !ok || isZeroRat(sum) {
			return nil, impl.Rat{}, false
		}
		set[i] = merged
	}
	slices.SortFunc(set, func(a, b impl.Link) int { return a.A*10 + a.B - b.A*10 - b.B })
	return set, sum, true
}

// estimatedExactly returns what Estimate has to return for valid links.
func estimatedExactly(l []impl.Link) ([]impl.Point, impl.Rat, bool) {
	set, joined, ok := joinedExactly(l)
	if !ok {
		return nil, impl.Rat{}, false
	}
	net, energy, ok := allEliminatedExactly(set, wantedOrder(set, nil))
	if !ok {
		return nil, impl.Rat{}, false
	}
	at, ok := netSolvedExactly(net)
	sum := limited((*big.Rat).Add, joined, energy)
	if !ok || isZeroRat(sum) {
		return nil, impl.Rat{}, false
	}
	return at, sum, true
}

func checkNoNet(t *testing.T, name string, net []impl.Conditional) {
	t.Helper()
	if impl.IsNet(net) {
		t.Errorf("%s: IsNet(%s) = true", name, parentsIn(net))
	}
	checkSolveNetFails(t, name, net)
}

func checkSolveNetFails(t *testing.T, name string, net []impl.Conditional) {
	t.Helper()
	if at, ok := impl.SolveNet(net); ok || len(at) > 0 {
		t.Errorf("%s: SolveNet(%v) = %v, %v", name, net, at, ok)
	}
}

// checkNet compares SolveNet with the computation of math/big, and reports whether it succeeds.
func checkNet(t *testing.T, net []impl.Conditional) bool {
	t.Helper()
	if !impl.IsNet(net) {
		t.Errorf("IsNet(%v) = false", net)
	}
	want, wantOk := netSolvedExactly(net)
	at, ok := impl.SolveNet(net)
	if ok != wantOk || !equalPoints(at, want) {
		t.Errorf("SolveNet(%v) = %v, %v, want %v, %v", net, at, ok, want, wantOk)
	}
	return ok
}

// checkBatch compares EliminateAll with the computation of math/big, and reports whether it succeeds.
func checkBatch(t *testing.T, set []impl.Link, order []int) bool {
	t.Helper()
	want, wantEnergy, wantOk := allEliminatedExactly(set, order)
	net, energy, ok := impl.EliminateAll(set, order)
	if ok != wantOk || !equalNets(net, want) || !sameRat(energy, wantEnergy) {
		t.Errorf("EliminateAll(%v, %v) = %v, %v, %v, want %v, %v, %v", set, order, net, energy, ok, want, wantEnergy, wantOk)
	}
	if ok && !impl.IsNet(net) {
		t.Errorf("EliminateAll(%v, %v) = %v, which is no net", set, order, net)
	}
	return ok
}

func checkBatchFails(t *testing.T, name string, set []impl.Link, order []int) {
	t.Helper()
	if net, energy, ok := impl.EliminateAll(set, order); ok || len(net) > 0 || !isZeroRat(energy) {
		t.Errorf("%s: EliminateAll(%v, %v) = %v, %v, %v", name, set, order, net, energy, ok)
	}
}

func checkTotalFails(t *testing.T, name string, l []impl.Link, at []impl.Point) {
	t.Helper()
	if energy, ok := impl.TotalEnergy(l, at); ok || !isZeroRat(energy) {
		t.Errorf("%s: TotalEnergy(%v, %v) = %v, %v", name, l, at, energy, ok)
	}
}

// checkEstimate compares Estimate with the computation of math/big, and reports whether it succeeds.
func checkEstimate(t *testing.T, l []impl.Link) bool {
	t.Helper()
	want, wantEnergy, wantOk := estimatedExactly(l)
	at, energy, ok := impl.Estimate(l)
	if ok != wantOk || !equalPoints(at, want) || !sameRat(energy, wantEnergy) {
		t.Errorf("Estimate(%v) = %v, %v, %v, want %v, %v, %v", l, at, energy, ok, want, wantEnergy, wantOk)
	}
	return ok
}

func checkEstimateFails(t *testing.T, name string, l []impl.Link) {
	t.Helper()
	if at, energy, ok := impl.Estimate(l); ok || len(at) > 0 || !isZeroRat(energy) {
		t.Errorf("%s: Estimate(%v) = %v, %v, %v", name, l, at, energy, ok)
	}
}

// isGroundedSet does not call IsGrounded: it looks into the table of the ways between nodes.
func isGroundedSet(set []impl.Link) bool {
	connected := linkedBy(set).connected()
	return !slices.ContainsFunc(linkedNodes(set), func(v int) bool { return !connected[0][v] })
}

// P18.
func TestIsNet(t *testing.T) {
	for _, c := range []struct {
		name string
		net  []impl.Conditional
		want bool
	}{
		{"no conditionals", nil, true},
		{"an empty list", []impl.Conditional{}, true},
		{"one conditional", netOf("1:0"), true},
		{"the last node", netOf("9:0"), true},
		{"a parent that is missing", netOf("1:2"), false},
		{"a parent beside 0 that is missing", netOf("1:0,2"), false},
		{"two conditionals", netOf("1:0,2", "2:0"), true},
		{"two conditionals in the other order", netOf("2:0", "1:0,2"), false},
		{"two conditionals apart", netOf("2:0", "1:0"), true},
		{"two parents of each other", netOf("1:2", "2:1"), false},
		{"two parents of each other and 0", netOf("1:0,2", "2:0,1"), false},
		{"one Node twice", netOf("1:0", "1:0"), false},
		{"one Node twice, apart", netOf("1:0", "2:0", "1:0"), false},
		{"one Node twice, with parents", netOf("1:0,2", "1:2", "2:0"), false},
		{"one Node twice, the second one as a parent", netOf("2:1", "1:0", "1:0"), false},
		{"one Node twice, behind a parent", netOf("2:0", "1:2", "2:0"), false},
		{"the last Node twice", netOf("1:0", "9:0", "9:0"), false},
		{"a chain", netOf("3:2", "2:1", "1:0"), true},
		{"a chain to the greatest node", netOf("1:2", "2:9", "9:0"), true},
		{"a chain from 0", netOf("1:0", "2:1", "3:2"), false},
		{"a chain, its middle first", netOf("2:1", "3:2", "1:0"), false},
		{"a chain, its middle last", netOf("3:2", "1:0", "2:1"), false},
		{"a step over another conditional", netOf("5:3", "7:0", "3:0"), true},
		{"parents that are no parents of each other", netOf("5:3,7", "7:0", "3:0"), true},
		{"one of several parents is missing", netOf("5:3,4,7", "7:0", "3:0"), false},
		{"the first parent is missing", netOf("5:3,7", "7:0"), false},
		{"the last parent is missing", netOf("5:3,7", "3:0"), false},
		{"the first parent is earlier", netOf("3:0", "5:3,7", "7:0"), false},
		{"the last parent is earlier", netOf("7:0", "5:3,7", "3:0"), false},
		{"only the last conditional has a parent too much", netOf("5:3,7", "7:3", "3:0,5"), false},
		{"the last conditional has a parent that is missing", netOf("5:3,7", "7:3", "3:8"), false},
		{"without 0 but for the last one", netOf("1:2,3,4", "2:3,4", "3:4", "4:0"), true},
		{"without 0", netOf("1:2,3,4", "2:3,4", "3:4"), false},
		{"all nodes", netOf("1:2,5,9", "8:0,9", "3:0,4,6", "7:9", "2:4", "6:4,5", "9:4", "5:0,4", "4:0"), true},
		{"all nodes, the last one a parent of all", netOf("1:9", "2:9", "3:9", "4:9", "5:9", "6:9", "7:9", "8:9", "9:0"), true},
		{"all nodes, the first one a parent of all", netOf("1:0", "2:1", "3:1", "4:1", "5:1", "6:1", "7:1", "8:1", "9:1"), false},
		{"all nodes and one of them once more", netOf("4:0", "1:0", "2:0", "3:0", "4:0", "5:0", "6:0", "7:0", "8:0", "9:0"), false},
		{"the Node as its own parent", conditionals("1 2 0:1/2:0:0 1:1/2:0:0"), false},
		{"the Node as its only parent", conditionals("1 2 1:1:0:0"), false},
		{"the Node as its own parent, before the Node once more", conditionals("1 2 1:1:0:0", "1 2 0:1:0:0"), false},
		{"the zero value", []impl.Conditional{{}}, false},
		{"the zero value first", append([]impl.Conditional{{}}, netOf("1:0")...), false},
		{"the zero value last", append(netOf("1:0"), impl.Conditional{}), false},
		{"node 0", conditionals("0 1 1:1:0:0", "1 1 0:1:0:0"), false},
		{"node 0 last", conditionals("1 1 0:1:0:0", "0 1 1:1:0:0"), false},
		{"MaxNodes", conditionals("10 1 0:1:0:0"), false},
		{"MaxNodes as a parent", conditionals("1 1 10:1:0:0", "10 1 0:1:0:0"), false},
		{"a negative Node", conditionals("1 1 -1:1:0:0", "-1 1 0:1:0:0"), false},
		{"Shares below 1", conditionals("1 2 0:1/2:0:0"), false},
		{"Shares below 1 before others", conditionals("1 2 0:1/2:0:0", "2 1 0:1:0:0"), false},
		{"Shares below 1 behind others", conditionals("1 2 0:1/2:0:0 2:1/2:0:0", "2 1 0:1/2:0:0"), false},
		{"Total 0", conditionals("1 2 0:1/2:0:0 2:1/2:0:0", "2 0 0:1:0:0"), false},
		{"parents in another order", conditionals("1 2 2:1/2:0:0 0:1/2:0:0", "2 1 0:1:0:0"), false},
	} {
		if got := impl.IsNet(c.net); got != c.want {
			t.Errorf("%s: IsNet(%s) = %v", c.name, parentsIn(c.net), got)
		}
		if c.want {
			checkNet(t, c.net)
		} else {
			checkNoNet(t, c.name, c.net)
		}
	}
}

// P18.
func TestIsNetOfEveryShortList(t *testing.T) {
	all := netOf("1:0", "1:2", "1:0,9", "2:0", "2:1", "2:1,9", "9:0", "9:1,2", "9:0,1", "5:0,1,2,9")
	var places []int
	for i := range all {
		places = append(places, i)
	}
	counts := map[bool]int{}
	everyList(4, places, func(l []int) {
		var net []impl.Conditional
		for _, i := range l {
			net = append(net, all[i])
		}
		isNet := isNetOfParents(net)
		counts[isNet]++
		if isNet {
			checkNet(t, net)
		} else {
			checkNoNet(t, "every short list", net)
		}
	})
	if counts[true] < 50 || counts[false] < 5000 {
		t.Errorf("the numbers of nets: %v", counts)
	}
}

// othersThan returns a net of all nodes but v.
func othersThan(v int) []impl.Conditional {
	var net []impl.Conditional
	for node := 1; node <= 9; node++ {
		if node != v {
			net = append(net, netOf(fmt.Sprintf("%d:0", node))...)
		}
	}
	return net
}

// P18. There is a later conditional for every parent, and none with the same Node, so that only the invalid one is wrong.
func TestIsNetRejectsInvalidConditionals(t *testing.T) {
	for name, c := range invalidConditionals() {
		checkNoNet(t, name+" alone", []impl.Conditional{c})
		checkNoNet(t, name+" first", append([]impl.Conditional{c}, othersThan(c.Node)...))
		checkNoNet(t, name+" last", append(othersThan(c.Node), c))
		checkNoNet(t, name+" behind the others", slices.Insert(othersThan(c.Node), 7, c))
	}
	for _, text := range validConditionals() {
		c := conditional(text)
		checkNet(t, append([]impl.Conditional{c}, othersThan(c.Node)...))
	}
}

// P18. In a net, one fraction after another is spoiled.
func TestIsNetRejectsInvalidFractions(t *testing.T) {
	texts := []string{"3:0,1,5", "1:0,5", "9:5", "5:0"}
	for i := range texts {
		for place := range len(conditionalRats(&netOf(texts...)[i])) {
			for j, r := range invalidRats() {
				net := netOf(texts...)
				*conditionalRats(&net[i])[place] = r
				checkNoNet(t, fmt.Sprintf("invalid fraction %d at %d of conditional %d", j, place, i), net)
			}
		}
	}
	checkNet(t, netOf(texts...))
}

// P7, P18.
func TestEliminateAll(t *testing.T) {
	triangle := []string{"0-1 1 0 0", "0-2 1 7 0", "1-2 1 4 0"}
	for _, c := range []struct {
		name   string
		set    []string
		order  []int
		net    []string
		energy string
		at     string
	}{
		{"nothing", nil, nil, nil, "0", "0=0,0"},
		{"one link", []string{"0-1 2/3 5 -6"}, []int{1}, []string{"1 2/3 0:1:5:-6"}, "0", "0=0,0 1=5,-6"},
		{"one link to the last node", []string{"0-9 7 1/2 3"}, []int{9}, []string{"9 7 0:1:1/2:3"}, "0", "0=0,0 9=1/2,3"},
		{"a triangle", triangle, []int{1, 2}, []string{"1 2 0:1/2:0:0 2:1/2:-4:0", "2 3/2 0:1:6:0"}, "3", "0=0,0 1=1,0 2=6,0"},
		{"a triangle in the other order", triangle, []int{2, 1}, []string{"2 2 0:1/2:7:0 1:1/2:4:0", "1 3/2 0:1:1:0"}, "3", "0=0,0 1=1,0 2=6,0"},
		{"a chain from its end", []string{"0-1 1 1 2", "1-2 2 3 -1"}, []int{2, 1}, []string{"2 2 1:1:3:-1", "1 1 0:1:1:2"}, "0", "0=0,0 1=1,2 2=4,1"},
		{"a chain from 0", []string{"0-1 1 1 2", "1-2 2 3 -1"}, []int{1, 2}, []string{"1 3 0:1/3:1:2 2:2/3:-3:1", "2 2/3 0:1:4:1"}, "0", "0=0,0 1=1,2 2=4,1"},
		{"a star of 0", []string{"0-2 1 1 1", "0-5 2 3 -4", "0-8 1/2 0 1"}, []int{5, 8, 2}, []string{"5 2 0:1:3:-4", "8 1/2 0:1:0:1", "2 1 0:1:1:1"}, "0", "0=0,0 2=1,1 5=3,-4 8=0,1"},
		{"links with weights", []string{"0-1 3 0 8", "0-2 1 0 0", "1-2 1 8 0"}, []int{1, 2}, []string{"1 4 0:3/4:0:8 2:1/4:-8:0", "2 7/4 0:1:24/7:24/7"}, "384/7", "0=0,0 1=-8/7,48/7 2=24/7,24/7"},
		{"two energies", []string{"0-1 1 0 0", "0-2 1 7 0", "0-3 4 0 0", "0-4 2 0 6", "1-2 1 4 0", "3-4 4 0 0"}, []int{1, 3, 2, 4},
			[]string{"1 2 0:1/2:0:0 2:1/2:-4:0", "3 8 0:1/2:0:0 4:1/2:0:0", "2 3/2 0:1:6:0", "4 4 0:1:0:3"}, "39", "0=0,0 1=1,0 2=6,0 3=0,3/2 4=0,3"},
	} {
		net, energy, ok := impl.EliminateAll(links(c.set...), c.order)
		if !ok || !equalNets(net, conditionals(c.net...)) || !sameRat(energy, fraction(c.energy)) {
			t.Errorf("%s: EliminateAll = %v, %v, %v, want %v and %s", c.name, net, energy, ok, c.net, c.energy)
		}
		checkBatch(t, links(c.set...), c.order)
		at, ok := impl.SolveNet(net)
		if text := impl.FormatPoints(at); !ok || text != c.at {
			t.Errorf("%s: SolveNet = %s, %v, want %s", c.name, text, ok, c.at)
		}
	}
	if net, energy, ok := impl.EliminateAll([]impl.Link{}, []int{}); !ok || len(net) > 0 || !sameRat(energy, fraction("0")) {
		t.Errorf("EliminateAll of empty lists = %v, %v, %v", net, energy, ok)
	}
}

// solution is what the elimination of all nodes has to lead to, in any order.
type solution struct {
	at     []impl.Point
	energy impl.Rat
}

// denseSolution returns the positions of dense linear algebra for a grounded set, and their energy.
func denseSolution(t *testing.T, set []impl.Link) solution {
	t.Helper()
	at, ok := impl.DenseSolution(set)
	if !ok || !isBalanced(set, at) {
		t.Fatalf("DenseSolution(%v) = %v, %v", set, at, ok)
	}
	energy, ok := impl.TotalEnergy(set, at)
	if !ok || quotientOf(energy).Cmp(totalAt(t, set, at)) != 0 {
		t.Fatalf("TotalEnergy(%v, %v) = %v, %v", set, at, energy, ok)
	}
	return solution{at: at, energy: energy}
}

// checkPositions eliminates the nodes of a grounded set in this order.
func checkPositions(t *testing.T, set []impl.Link, order []int, want solution) {
	t.Helper()
	net, energy, ok := impl.EliminateAll(set, order)
	if !ok || !sameRat(energy, want.energy) {
		t.Errorf("EliminateAll(%v, %v) has the energy %v, %v instead of %v", set, order, energy, ok, want.energy)
	}
	isNodeOf := func(c impl.Conditional, v int) bool { return c.Node == v }
	if !impl.IsNet(net) || !slices.EqualFunc(net, order, isNodeOf) {
		t.Errorf("EliminateAll(%s, %v) has the conditionals %s", pairsIn(set), order, parentsIn(net))
	}
	if at, ok := impl.SolveNet(net); !ok || !equalPoints(at, want.at) {
		t.Errorf("in the order %v, the solution of %v is %v, %v instead of %v", order, set, at, ok, want.at)
	}
}

// P7, P18. There are positions exactly if the set is grounded, and any order leads to the same ones.
func TestEliminateAllOfEverySmallSet(t *testing.T) {
	for n, set := range everySmallSet() {
		grounded := isGroundedSet(set)
		var want solution
		if grounded {
			want = denseSolution(t, set)
		}
		for _, order := range permutations(linkedNodes(set)) {
			if grounded {
				checkPositions(t, set, order, want)
			} else {
				checkBatchFails(t, "not grounded", set, order)
			}
			if n%8 == 7 {
				checkBatch(t, set, order)
			}
		}
	}
}

// moved returns the positions with v moved by (x, y).
func moved(at []impl.Point, v int, x, y impl.Rat) []impl.Point {
	return placed(at, v, impl.Point{X: limited((*big.Rat).Add, at[v].X, x), Y: limited((*big.Rat).Add, at[v].Y, y)})
}

// checkLeast compares the energy of the links at these positions with that at others. In a grounded set, where node 0 stays at
// the origin, no others have the same energy.
func checkLeast(t *testing.T, r *rand.Rand, l []impl.Link, at []impl.Point, nodes []int) {
	t.Helper()
	least, ok := impl.TotalEnergy(l, at)
	if !ok {
		t.Fatalf("TotalEnergy(%v, %v) fails", l, at)
	}
	var others [][]impl.Point
	for _, v := range nodes {
		for _, step := range [][2]string{{"1", "0"}, {"0", "-1"}, {"-1/1000", "1/1000"}, {"0", "1e-20"}, {"-1000", "0"}} {
			others = append(others, moved(at, v, fraction(step[0]), fraction(step[1])))
		}
	}
	for range 5 {
		random := randomPoints(r)
		random[0] = point("0", "0")
		others = append(others, random)
	}
	for _, other := range others {
		if energy, ok := impl.TotalEnergy(l, other); !ok || len(nodes) > 0 && impl.RatCmp(energy, least) <= 0 {
			t.Errorf("the energy of %v at %v is %v, %v, and at %v it is %v", l, other, energy, ok, at, least)
		}
	}
}

// P7.
func TestEliminateAllHasTheLeastEnergyInAnyOrder(t *testing.T) {
	r := rand.New(rand.NewSource(61))
	for n := range 60 {
		set := groundedSet(r, 2+n%9, n/2)
		nodes := linkedNodes(set)
		reversed := slices.Clone(nodes)
		slices.Reverse(reversed)
		want := denseSolution(t, set)
		for _, order := range [][]int{nodes, reversed, shuffled(r, nodes), shuffled(r, nodes), impl.MinDegreeOrder(set, nil), impl.MinDegreeOrder(set, nodes[:1])} {
			checkPositions(t, set, order, want)
			checkBatch(t, set, order)
		}
		checkLeast(t, r, set, want.at, nodes)
	}
}

// P18. With more limbs, some results are too large.
func TestEliminateAllOfRandomSets(t *testing.T) {
	r := rand.New(rand.NewSource(62))
	counts := map[bool]int{}
	for n := range 200 {
		set := groundedSet(r, 2+n%4, n/20)
		for i, k := range set {
			set[i] = randomLink(r, k.A, k.B, 1+n/4%8)
		}
		order := shuffled(r, linkedNodes(set))
		counts[checkBatch(t, set, order)]++
		if net, _, ok := allEliminatedExactly(set, order); ok {
			checkNet(t, net)
		}
	}
	if counts[true] < 50 || counts[false] < 50 {
		t.Errorf("the successes of EliminateAll: %v", counts)
	}
}

// P18.
func TestEliminateAllRejectsWhatIsNoOrder(t *testing.T) {
	set := links("0-1 1 0 0", "0-2 1 7 0", "1-2 1 4 0", "2-5 2 1 1")
	nodes := []int{1, 2, 5}
	everyList(4, []int{-1, 0, 1, 2, 5, 10}, func(l []int) {
		if !isEachOnce(nodes, l) {
			checkBatchFails(t, "every short list", set, l)
		}
	})
	for _, order := range [][]int{{1, 2, math.MaxInt}, {math.MinInt, 2, 5}, {1, 2, 5, 3}, {1, 2, 5, 9}, {1, 2, 5, 1, 2, 5}, make([]int, 1000)} {
		checkBatchFails(t, "no order", set, order)
	}
	checkBatchFails(t, "no node of the set", pairSet("0-1"), []int{2})
	checkBatchFails(t, "a node of no set", nil, []int{1})
	checkBatchFails(t, "node 0 of no set", nil, []int{0})
	checkBatchFails(t, "no order of a set", pairSet("0-1"), nil)
	checkBatchFails(t, "node 0 at the end", pairSet("0-1"), []int{1, 0})
}

// P18.
func TestEliminateAllRejectsListsThatAreNoLinkSets(t *testing.T) {
	for name, l := range noLinkSets() {
		for _, order := range [][]int{nil, {1}, {2, 1}, {1, 2, 3}, {3}, {1, 8, 9, 7}, {1, 2, 3, 4, 5, 6, 7, 8, 9}} {
			checkBatchFails(t, name, l, order)
		}
	}
}

// P7, P18. A node that is not linked with node 0 has no links when all others of its component have been eliminated.
func TestEliminateAllOfSetsThatAreNotGrounded(t *testing.T) {
	for _, set := range [][]impl.Link{
		pairSet("1-2"), pairSet("8-9"), pairSet("1-2", "1-3", "2-3"), pairSet("0-1", "2-3"), pairSet("0-3", "1-2"), pairSet("0-9", "1-2", "2-3", "8-9"),
	} {
		for _, order := range permutations(linkedNodes(set)) {
			checkBatchFails(t, "not grounded", set, order)
		}
		checkEstimateFails(t, "not grounded", set)
	}
	for _, set := range [][]impl.Link{
		pairSet("0-1", "0-2", "1-2", "3-4", "3-5", "4-5"), slices.DeleteFunc(allLinks(), func(k impl.Link) bool { return k.A == 0 }),
	} {
		for _, order := range [][]int{linkedNodes(set), impl.MinDegreeOrder(set, nil), impl.MinDegreeOrder(set, []int{1, 3})} {
			checkBatchFails(t, "not grounded", set, order)
		}
		checkEstimateFails(t, "not grounded", set)
	}
}

// triangles returns, for each dx, the links of node 0 with two more nodes. Eliminating the first one has the energy dx * dx.
func triangles(dxs ...string) []impl.Link {
	var texts []string
	for i, dx := range dxs {
		texts = append(texts, fmt.Sprintf("0-%d 4 0 0", 2*i+1), fmt.Sprintf("0-%d 2 %s 0", 2*i+2, dx))
	}
	for i := range dxs {
		texts = append(texts, fmt.Sprintf("%d-%d 4 0 0", 2*i+1, 2*i+2))
	}
	return links(texts...)
}

// P18. In each group of cases, one fraction is just valid and then just too large.
func TestEliminateAllAtTheLimit(t *testing.T) {
	nines, zeros := strings.Repeat("9", 216), strings.Repeat("0", 53)
	eights := nines[1:] + "8"
	// The sum of the squares of the first two is 1. The squares of all have denominators of about 110 digits.
	first, second, third := "8"+nines[:54]+"/9"+zeros+"1", "6"+zeros[:27]+"/9"+zeros+"1", "1e-54"
	for _, c := range []struct {
		name  string
		set   []impl.Link
		order []int
		want  bool
	}{
		{"one great link", links("0-1 " + nines + " -" + nines + " " + nines), []int{1}, true},
		{"a sum of weights", links("0-1 "+eights+" 0 0", "1-2 1 0 0"), []int{1, 2}, true},
		{"a sum of weights", links("0-1 "+nines+" 0 0", "1-2 1 0 0"), []int{1, 2}, false},
		{"a sum of weights in the other order", links("0-1 "+nines+" 0 0", "1-2 1 0 0"), []int{2, 1}, true},
		{"a product of weights", links("0-1 1e108 0 0", "1-2 1e108 0 0"), []int{1, 2}, false},
		{"a product of weights in the other order", links("0-1 1e108 0 0", "1-2 1e108 0 0"), []int{2, 1}, true},
		{"a product of the last weights", links("0-1 1e108 0 0", "0-2 1 0 0", "1-3 1e108 0 0"), []int{2, 1, 3}, false},
		{"a product of the last weights in the other order", links("0-1 1e108 0 0", "0-2 1 0 0", "1-3 1e108 0 0"), []int{2, 3, 1}, true},
		{"DX of a chain", links("0-1 1 "+eights+" 0", "1-2 1 1 0"), []int{1, 2}, true},
		{"DX of a chain", links("0-1 1 "+nines+" 0", "1-2 1 1 0"), []int{1, 2}, false},
		{"DX of a chain in the other order", links("0-1 1 "+nines+" 0", "1-2 1 1 0"), []int{2, 1}, true},
		{"an energy", triangles(nines[:108]), []int{1, 2}, true},
		{"an energy", triangles("1e108"), []int{1, 2}, false},
		{"the last energy", triangles("1", "2", nines[:108]), []int{1, 3, 5, 2, 4, 6}, true},
		{"the last energy", triangles("1", "2", "1e108"), []int{1, 3, 5, 2, 4, 6}, false},
		{"the sum of two energies", triangles("7e107", "7e107"), []int{1, 3, 2, 4}, true},
		{"the sum of two energies", triangles("7e107", "8e107"), []int{1, 3, 2, 4}, false},
		{"the sum of two energies in another order", triangles("7e107", "8e107"), []int{3, 4, 1, 2}, false},
		{"the sum of an energy and of one that is 0", triangles("0", nines[:108], "0"), []int{1, 3, 5, 2, 4, 6}, true},
		{"the sum of the energies of one node", allLinks(), []int{1, 2, 3, 4, 5, 6, 7, 8, 9}, false},
		{"the sum on the way", triangles(first, second, third), []int{1, 3, 5, 2, 4, 6}, true},
		{"the sum on the way", triangles(first, second, third), []int{3, 1, 5, 2, 4, 6}, true},
		{"the sum on the way", triangles(first, second, third), []int{1, 5, 3, 2, 4, 6}, false},
		{"the sum on the way", triangles(first, second, third), []int{5, 3, 1, 2, 4, 6}, false},
	} {
		if ok := checkBatch(t, c.set, c.order); ok != c.want {
			t.Errorf("%s: the success of EliminateAll(%v, %v): %v", c.name, c.set, c.order, ok)
		}
	}
}

// P7, P18.
func TestSolveNet(t *testing.T) {
	o := point("0", "0")
	for _, c := range []struct {
		name string
		net  []string
		want []impl.Point
	}{
		{"no conditionals", nil, []impl.Point{o}},
		{"one conditional", []string{"1 2/3 0:1:5:-6"}, []impl.Point{o, point("5", "-6")}},
		{"at the origin", []string{"1 2/3 0:1:0:0"}, []impl.Point{o, o}},
		{"the last node", []string{"9 1 0:1:1/2:3"}, []impl.Point{o, {}, {}, {}, {}, {}, {}, {}, {}, point("1/2", "3")}},
		{"a triangle", []string{"1 2 0:1/2:0:0 2:1/2:-4:0", "2 3/2 0:1:6:0"}, []impl.Point{o, point("1", "0"), point("6", "0")}},
		{"a triangle in the other order", []string{"2 2 0:1/2:7:0 1:1/2:4:0", "1 3/2 0:1:1:0"}, []impl.Point{o, point("1", "0"), point("6", "0")}},
		{"numbers that are no Node", []string{"3 1 5:1:1:1", "5 1 0:1:2:-3"}, []impl.Point{o, {}, {}, point("3", "-2"), {}, point("2", "-3")}},
		{"the greatest Node first", []string{"7 1 2:1/3:0:0 4:2/3:3:3", "4 1 2:1:1:0", "2 1 0:1:0:1"}, []impl.Point{o, {}, point("0", "1"), {}, point("1", "1"), {}, {}, point("8/3", "3")}},
		{"the greatest Node last", []string{"2 1 4:1:1:0", "4 1 7:1:1:0", "7 1 0:1:1:0"}, []impl.Point{o, {}, point("3", "0"), {}, point("2", "0"), {}, {}, point("1", "0")}},
		{"the greatest Node in the middle", []string{"2 1 7:1:1:0", "7 1 4:1:1:0", "4 1 0:1:1:0"}, []impl.Point{o, {}, point("3", "0"), {}, point("1", "0"), {}, {}, point("2", "0")}},
		{"apart", []string{"3 1 0:1:1:2", "1 1 0:1:3:4", "2 1 0:1:5:6"}, []impl.Point{o, point("3", "4"), point("5", "6"), point("1", "2")}},
		{"without 0 but for the last one", []string{"1 1 2:1/2:0:0 3:1/2:0:0", "2 1 3:1:-2:-2", "3 1 0:1:10:20"}, []impl.Point{o, point("9", "19"), point("8", "18"), point("10", "20")}},
		{"Totals that fit to nothing", []string{"1 1000000007 0:1/2:0:0 2:1/2:-4:0", "2 1/1000000007 0:1:6:0"}, []impl.Point{o, point("1", "0"), point("6", "0")}},
	} {
		net := conditionals(c.net...)
		if got, ok := impl.SolveNet(net); !ok || !equalPoints(got, c.want) {
			t.Errorf("%s: SolveNet = %v, %v, want %v", c.name, got, ok, c.want)
		}
		checkNet(t, net)
	}
	if got, ok := impl.SolveNet([]impl.Conditional{}); !ok || !equalPoints(got, []impl.Point{o}) {
		t.Errorf("SolveNet of an empty list = %v, %v", got, ok)
	}
}

// randomNet returns a net of some random nodes, whose conditionals need not come from links. Fractions have so many limbs.
func randomNet(r *rand.Rand, nodes int, limbs int) []impl.Conditional {
	var net []impl.Conditional
	later := []int{0}
	for _, v := range r.Perm(9)[:nodes] {
		parents := shuffled(r, later)[:1+r.Intn(min(3, len(later)))]
		slices.Sort(parents)
		c := impl.Conditional{Node: v + 1, Total: randomLink(r, 0, 1, limbs).Weight}
		sum := len(parents) * (len(parents) + 1) / 2
		for i, node := range parents {
			c.Parents = append(c.Parents, impl.Parent{Node: node, Share: impl.RatOf(i+1, sum), DX: randomRat(r, limbs), DY: randomRat(r, limbs)})
		}
		net = slices.Insert(net, 0, c)
		later = append(later, v+1)
	}
	return net
}

// P18. With more limbs, some positions are too large.
func TestSolveNetOfRandomNets(t *testing.T) {
	r := rand.New(rand.NewSource(63))
	counts := map[bool]int{}
	for n := range 300 {
		net := randomNet(r, n%10, 1+n/10%12)
		if !isNetOfParents(net) {
			t.Fatalf("%s is no net", parentsIn(net))
		}
		counts[checkNet(t, net)]++
	}
	if counts[true] < 50 || counts[false] < 50 {
		t.Errorf("the successes of SolveNet: %v", counts)
	}
}

// P18. In each group of cases, one position is just valid and then just too large. The same numbers are used as X and as Y.
func TestSolveNetAtTheLimit(t *testing.T) {
	nines, zeros := strings.Repeat("9", 216), strings.Repeat("0", 215)
	eights := nines[1:] + "8"
	for _, c := range []struct {
		name string
		net  []string
		want bool
	}{
		{"one position", []string{"1 1 0:1:" + nines + ":0"}, true},
		{"one position with a great denominator", []string{"1 1 0:1:-1/" + nines + ":0"}, true},
		{"the first conditional", []string{"2 1 1:1:1:0", "1 1 0:1:" + eights + ":0"}, true},
		{"the first conditional", []string{"2 1 1:1:1:0", "1 1 0:1:" + nines + ":0"}, false},
		{"the first conditional", []string{"2 1 1:1:-1:0", "1 1 0:1:" + nines + ":0"}, true},
		{"the middle conditional", []string{"3 1 2:1:-1:0", "2 1 1:1:1:0", "1 1 0:1:" + nines + ":0"}, false},
		{"the middle conditional, of which nothing depends", []string{"3 1 0:1:0:0", "2 1 1:1:1:0", "1 1 0:1:" + nines + ":0"}, false},
		{"the last conditional", []string{"2 1 1:1:-1:0", "1 1 0:1:" + nines + ":0"}, true},
		{"the sum", []string{"3 1 1:1/2:0:0 2:1/2:0:0", "2 1 0:1:" + nines + ":0", "1 1 0:1:" + nines + ":0"}, true},
		{"the sum", []string{"3 1 1:1/2:0:0 2:1/2:0:0", "2 1 0:1:" + nines + ":0", "1 1 0:1:" + eights + ":0"}, false},
		{"the denominator", []string{"3 1 1:1/2:0:0 2:1/2:0:0", "2 1 0:1:1/4" + zeros + ":0", "1 1 0:1:0:0"}, true},
		{"the denominator", []string{"3 1 1:1/2:0:0 2:1/2:0:0", "2 1 0:1:1/5" + zeros + ":0", "1 1 0:1:0:0"}, false},
	} {
		net := conditionals(c.net...)
		var turned, both []impl.Conditional
		for _, text := range c.net {
			other, same := conditional(text), conditional(text)
			for i, p := range other.Parents {
				other.Parents[i].DX, other.Parents[i].DY = p.DY, p.DX
				same.Parents[i].DY = p.DX
			}
			turned, both = append(turned, other), append(both, same)
		}
		for _, net := range [][]impl.Conditional{net, turned, both} {
			if ok := checkNet(t, net); ok != c.want {
				t.Errorf("%s: the success of SolveNet(%v): %v", c.name, net, ok)
			}
			if !c.want {
				checkSolveNetFails(t, c.name, net)
			}
		}
	}
}

// P18.
func TestTotalEnergy(t *testing.T) {
	o := point("0", "0")
	triangle := []string{"0-1 1 0 0", "0-2 1 7 0", "1-2 1 4 0"}
	for _, c := range []struct {
		name string
		l    []string
		at   []impl.Point
		want string
	}{
		{"no links", nil, nil, "0"},
		{"no links and an empty list", nil, []impl.Point{}, "0"},
		{"no links and points", nil, []impl.Point{o, point("1", "2")}, "0"},
		{"no links and points that are not valid", nil, []impl.Point{{}, {}}, "0"},
		{"one link that fits", []string{"0-1 3 1 2"}, []impl.Point{o, point("1", "2")}, "0"},
		{"one link", []string{"0-1 3 1 2"}, []impl.Point{o, point("2", "4")}, "15"},
		{"one link in X", []string{"0-1 2/3 1 2"}, []impl.Point{o, point("-2", "2")}, "6"},
		{"one link in Y", []string{"0-1 2/3 1 2"}, []impl.Point{o, point("1", "1/2")}, "3/2"},
		{"one link twice", []string{"0-1 3 1 2", "0-1 3 1 2"}, []impl.Point{o, point("2", "4")}, "30"},
		{"several links for one pair", []string{"0-1 1 1 0", "0-1 2 0 0", "0-1 1/2 0 -2"}, []impl.Point{o, o}, "3"},
		{"node 0 elsewhere", []string{"0-1 1 1 1"}, []impl.Point{point("1", "2"), point("4", "6")}, "13"},
		{"a triangle at its best", triangle, []impl.Point{o, point("1", "0"), point("6", "0")}, "3"},
		{"a triangle at the origin", triangle, []impl.Point{o, o, o}, "65"},
		{"a triangle, its links in another order", []string{"1-2 1 4 0", "0-2 1 7 0", "0-1 1 0 0"}, []impl.Point{o, o, o}, "65"},
		{"more points than needed", triangle, []impl.Point{o, point("1", "0"), point("6", "0"), point("1", "1"), {}}, "3"},
		{"the last nodes", []string{"8-9 1 1 1"}, []impl.Point{{}, {}, {}, {}, {}, {}, {}, {}, point("1", "1"), point("3", "4")}, "5"},
		{"more points than nodes", []string{"2-9 1 1 1"}, []impl.Point{{}, {}, o, {}, {}, {}, {}, {}, {}, o, {}, o}, "2"},
		{"points of other nodes that are not valid", []string{"1-3 1 1 0"}, []impl.Point{{}, o, {}, o, {}}, "1"},
	} {
		l := links(c.l...)
		if got, ok := impl.TotalEnergy(l, c.at); !ok || !sameRat(got, fraction(c.want)) {
			t.Errorf("%s: TotalEnergy = %v, %v, want %s", c.name, got, ok, c.want)
		}
	}
	if got, ok := impl.TotalEnergy([]impl.Link{}, nil); !ok || !sameRat(got, fraction("0")) {
		t.Errorf("TotalEnergy of an empty list = %v, %v", got, ok)
	}
}

// checkTotal compares TotalEnergy with the computation of math/big, and reports whether it succeeds.
func checkTotal(t *testing.T, l []impl.Link, at []impl.Point) bool {
	t.Helper()
	want, wantOk := totalExactly(l, at)
	got, ok := impl.TotalEnergy(l, at)
	if ok != wantOk || !sameRat(got, want) {
		t.Errorf("TotalEnergy(%v, %v) = %v, %v, want %v, %v", l, at, got, ok, want, wantOk)
	}
	return ok
}

// P18. With more limbs, some sums are too large.
func TestTotalEnergyOfRandomLists(t *testing.T) {
	r := rand.New(rand.NewSource(64))
	for n := range 100 {
		if !checkTotal(t, randomLinks(r, 2+n%9, n/2), randomPoints(r)) {
			t.Errorf("TotalEnergy of small fractions fails")
		}
	}
	counts := map[bool]int{}
	for n := range 200 {
		var l []impl.Link
		for range n % 5 {
			a := r.Intn(9)
			l = append(l, randomLink(r, a, a+1+r.Intn(9-a), 1))
		}
		at := make([]impl.Point, 10)
		for i := range at {
			at[i] = impl.Point{X: randomRat(r, 1+n%3), Y: randomRat(r, 1)}
		}
		counts[checkTotal(t, l, at)]++
	}
	if counts[true] < 50 || counts[false] < 50 {
		t.Errorf("the successes of TotalEnergy: %v", counts)
	}
}

// P18. The greatest end decides how many points there must be.
func TestTotalEnergyOfAllLengths(t *testing.T) {
	points := append(randomPoints(rand.New(rand.NewSource(65))), point("1", "1"), point("2", "2"))
	for _, l := range [][]impl.Link{
		links("0-1 1 3 4"), links("2-5 1 3 4"), links("8-9 1 3 4"), links("0-9 1 3 4"), links("0-1 1 3 4", "2-7 1 0 0", "1-3 1 0 0"), links("4-6 1 0 0", "0-1 1 3 4"), allLinks(),
	} {
		last := 0
		for _, k := range l {
			last = max(last, k.B)
		}
		for length := range len(points) + 1 {
			// Points behind the list do not belong to it.
			for _, at := range [][]impl.Point{points[:length], slices.Clone(points[:length])} {
				if length <= last {
					checkTotalFails(t, fmt.Sprintf("%d points", length), l, at)
				} else if !checkTotal(t, l, at) {
					t.Errorf("TotalEnergy(%s) of %d points fails", pairsIn(l), length)
				}
			}
		}
		checkTotalFails(t, "nil", l, nil)
		checkTotalFails(t, "no points", l, []impl.Point{})
	}
}

// P18.
func TestTotalEnergyOfInvalidLinks(t *testing.T) {
	at := append(randomPoints(rand.New(rand.NewSource(66))), point("1", "1"), point("2", "2"))
	valid := links("0-1 1 0 0", "0-1 1 5 5", "8-9 1 0 0")
	for _, k := range invalidLinks() {
		checkTotalFails(t, "alone, without points", []impl.Link{k}, nil)
		for i := range len(valid) + 1 {
			l := slices.Insert(slices.Clone(valid), i, k)
			for _, points := range [][]impl.Point{at, at[:10]} {
				checkTotalFails(t, fmt.Sprintf("an invalid link at %d", i), l, points)
			}
		}
		for _, length := range []int{1, 4, 10, 12} {
			checkTotalFails(t, "alone", []impl.Link{k}, at[:length])
			checkTotalFails(t, "twice", []impl.Link{k, k}, at[:length])
		}
	}
}

// P18.
func TestTotalEnergyOfAllEnds(t *testing.T) {
	at := append(randomPoints(rand.New(rand.NewSource(75))), point("1", "1"), point("2", "2"))
	for _, a := range graphNodes() {
		for _, b := range graphNodes() {
			k := link("0-1 1 3 4")
			k.A, k.B = a, b
			for length := range len(at) + 1 {
				if 0 <= a && a < b && b <= 9 && b < length {
					checkTotal(t, []impl.Link{k}, at[:length])
				} else {
					checkTotalFails(t, fmt.Sprintf("%d points", length), []impl.Link{k}, at[:length])
				}
			}
		}
	}
}

// P18. Only the points of the ends count.
func TestTotalEnergyOfInvalidPoints(t *testing.T) {
	points := randomPoints(rand.New(rand.NewSource(67)))
	l := links("1-4 1 3 4", "4-6 1/2 0 0", "1-9 1 0 0")
	want, _ := totalExactly(l, points)
	for _, r := range invalidRats() {
		for i := range points {
			for _, p := range []impl.Point{{X: r, Y: points[i].Y}, {X: points[i].X, Y: r}, {X: r, Y: r}} {
				at := placed(points, i, p)
				if slices.Contains([]int{1, 4, 6, 9}, i) {
					checkTotalFails(t, fmt.Sprintf("invalid point %d", i), l, at)
				} else if got, ok := impl.TotalEnergy(l, at); !ok || !sameRat(got, want) {
					t.Errorf("TotalEnergy with the point %v at %d = %v, %v", p, i, got, ok)
				}
			}
		}
	}
}

// P18. In each group of cases, one sum is just valid and then just too large.
func TestTotalEnergyAtTheLimit(t *testing.T) {
	nines := strings.Repeat("9", 216)
	eights := nines[1:] + "8"
	// Two denominators of 110 digits.
	p, q := "1"+strings.Repeat("0", 108)+"1", "1"+strings.Repeat("0", 108)+"3"
	rest := nines[:109] + "/" + p
	for _, c := range []struct {
		name    string
		weights []string
		want    bool
	}{
		{"one energy", []string{nines}, true},
		{"one energy with a great denominator", []string{"1/" + nines}, true},
		{"a sum", []string{eights, "1"}, true},
		{"a sum", []string{"1", eights}, true},
		{"a sum", []string{nines, "1"}, false},
		{"a sum", []string{"1", nines}, false},
		{"a sum before the last one", []string{nines, "1", "1"}, false},
		{"the denominator of a sum", []string{"1/" + p, "1/7"}, true},
		{"the denominator of a sum", []string{"1/" + p, "1/" + q}, false},
		{"a sum on the way", []string{"2/" + p, rest, "1/" + q}, true},
		{"a sum on the way", []string{"1/" + q, "2/" + p, rest}, false},
		{"a sum on the way", []string{"2/" + p, "1/" + q, rest}, false},
	} {
		var l []impl.Link
		for i, weight := range c.weights {
			l = append(l, links(fmt.Sprintf("%d-%d %s 1 0", i, i+1, weight))...)
		}
		at := slices.Repeat([]impl.Point{point("1", "1")}, len(l)+1)
		if ok := checkTotal(t, l, at); ok != c.want {
			t.Errorf("%s: the success of TotalEnergy(%v): %v", c.name, l, ok)
		}
	}
	// One energy is too large in itself.
	for _, text := range []string{"0-1 1e108 1e108 0", "0-1 1e108 0 -1e108", "0-1 1 1e108 0", "0-1 1 0 1e-108"} {
		checkTotalFails(t, "one energy", links(text), slices.Repeat([]impl.Point{point("0", "0")}, 2))
		checkTotalFails(t, "one of two energies", links("0-2 1 0 0", text), slices.Repeat([]impl.Point{point("0", "0")}, 3))
	}
}

// P7, P18. The links are given in every order.
func TestEstimate(t *testing.T) {
	for _, c := range []struct {
		name       string
		l          []string
		at, energy string
	}{
		{"no links", nil, "0=0,0", "0"},
		{"one link", []string{"0-1 2/3 5 -6"}, "0=0,0 1=5,-6", "0"},
		{"one link to the last node", []string{"0-9 7 1/2 3"}, "0=0,0 9=1/2,3", "0"},
		{"one link twice", []string{"0-1 2/3 5 -6", "0-1 2/3 5 -6"}, "0=0,0 1=5,-6", "0"},
		{"two links for one pair", []string{"0-1 1 1 0", "0-1 1 -1 0"}, "0=0,0 1=0,0", "2"},
		{"three links for one pair", []string{"0-9 1 1 0", "0-9 1 -1 0", "0-9 2 6 3"}, "0=0,0 9=3,3/2", "47"},
		{"a triangle", []string{"0-1 1 0 0", "0-2 1 7 0", "1-2 1 4 0"}, "0=0,0 1=1,0 2=6,0", "3"},
		{"a triangle and a link for one of its pairs", []string{"0-1 1 0 0", "0-2 1/2 6 0", "0-2 1/2 8 0", "1-2 1 4 0"}, "0=0,0 1=1,0 2=6,0", "4"},
		{"a chain", []string{"0-2 1 1 2", "2-5 3 4 -1", "5-6 1/2 0 1"}, "0=0,0 2=1,2 5=5,1 6=5,2", "0"},
		{"a chain with a pair", []string{"0-2 1 1 2", "2-5 3 4 -1", "2-5 1 8 -1", "1-5 1/2 0 1"}, "0=0,0 1=6,0 2=1,2 5=6,1", "12"},
		{"links with weights", []string{"0-1 3 0 8", "0-2 1 0 0", "1-2 1 8 0"}, "0=0,0 1=-8/7,48/7 2=24/7,24/7", "384/7"},
	} {
		for _, l := range permutations(links(c.l...)) {
			at, energy, ok := impl.Estimate(l)
			if text := impl.FormatPoints(at); !ok || text != c.at || !sameRat(energy, fraction(c.energy)) {
				t.Errorf("%s: Estimate(%v) = %s, %v, %v, want %s and %s", c.name, l, text, energy, ok, c.at, c.energy)
			}
			checkEstimate(t, l)
		}
	}
	if at, energy, ok := impl.Estimate([]impl.Link{}); !ok || !equalPoints(at, []impl.Point{point("0", "0")}) || !sameRat(energy, fraction("0")) {
		t.Errorf("Estimate of an empty list = %v, %v, %v", at, energy, ok)
	}
}

// P7, P18. The links are a set, or each pair has two links.
func TestEstimateOfEverySmallSet(t *testing.T) {
	for n, set := range everySmallSet() {
		var double []impl.Link
		for i, k := range set {
			double = append(double, k, link(fmt.Sprintf("%d-%d %d 3 -%d", k.A, k.B, i+1, i)))
		}
		for _, l := range [][]impl.Link{set, double} {
			if !isGroundedSet(set) {
				checkEstimateFails(t, "not grounded", l)
				continue
			}
			joined, _, _ := joinedExactly(l)
			want := denseSolution(t, joined)
			at, energy, ok := impl.Estimate(l)
			if !ok || !equalPoints(at, want.at) || quotientOf(energy).Cmp(totalAt(t, l, want.at)) != 0 {
				t.Errorf("Estimate(%v) = %v, %v, %v, want %v", l, at, energy, ok, want.at)
			}
			if n%8 == 7 {
				checkEstimate(t, l)
			}
		}
	}
}

// P7.
func TestEstimateHasTheLeastEnergy(t *testing.T) {
	r := rand.New(rand.NewSource(68))
	for n := range 60 {
		l := shuffled(r, groundedLinks(r, 2+n%9, n))
		set, _, _ := joinedExactly(l)
		want := denseSolution(t, set)
		at, energy, ok := impl.Estimate(l)
		if !ok || !equalPoints(at, want.at) || !isBalanced(l, at) {
			t.Fatalf("Estimate(%v) = %v, %v, want %v", l, at, ok, want.at)
		}
		if total, ok := impl.TotalEnergy(l, at); !ok || !sameRat(energy, total) || quotientOf(energy).Cmp(totalAt(t, l, at)) != 0 {
			t.Errorf("Estimate(%v) has the energy %v, but its positions have %v, %v", l, energy, total, ok)
		}
		checkLeast(t, r, l, at, linkedNodes(set))
		checkEstimate(t, l)
		// The links of a pair may be joined before.
		again, least, ok := impl.Estimate(set)
		if _, joined, _ := joinedExactly(l); !ok || !equalPoints(again, at) || !sameRat(limited((*big.Rat).Add, joined, least), energy) {
			t.Errorf("Estimate(%v) = %v, %v, %v, but the list has %v, %v", set, again, least, ok, at, energy)
		}
	}
}

// P18. With more limbs, some results are too large.
func TestEstimateOfRandomLists(t *testing.T) {
	r := rand.New(rand.NewSource(69))
	counts := map[bool]int{}
	for n := range 200 {
		l := groundedLinks(r, 2+n%4, n/20)
		for i, k := range l {
			l[i] = randomLink(r, k.A, k.B, 1+n%4)
		}
		counts[checkEstimate(t, l)]++
	}
	if counts[true] < 30 || counts[false] < 50 {
		t.Errorf("the successes of Estimate: %v", counts)
	}
}

// P18.
func TestEstimateRejectsInvalidLinks(t *testing.T) {
	valid := links("0-1 1 0 0", "0-1 1 5 5", "1-9 1 0 0")
	if !checkEstimate(t, valid) {
		t.Errorf("Estimate(%v) fails", valid)
	}
	for _, k := range invalidLinks() {
		checkEstimateFails(t, "an invalid link alone", []impl.Link{k})
		for i := range len(valid) + 1 {
			checkEstimateFails(t, fmt.Sprintf("an invalid link at %d", i), slices.Insert(slices.Clone(valid), i, k))
		}
	}
}

// P7, P18. The links can be joined, but not all nodes can be eliminated. With a link from node 0 to each of them, they can.
func TestEstimateOfNodesThatAreNotLinkedWith0(t *testing.T) {
	for _, l := range [][]impl.Link{
		links("1-2 1 0 0"), links("1-2 1 0 0", "1-2 1 3 4"), links("0-1 1 0 0", "2-3 1 1 1"), links("2-3 1 1 1", "0-1 1 0 0", "0-1 1 1 1"),
		links("0-9 1 0 0", "1-2 1 4 0", "2-3 1 1 1", "1-3 2 2 2"), links("0-1 1 0 0", "1-2 1 0 0", "8-9 1 0 0"),
	} {
		for _, order := range permutations(l) {
			checkEstimateFails(t, "not linked with 0", order)
		}
		set, _, _ := joinedExactly(l)
		more := slices.Clone(l)
		for _, v := range linkedNodes(set) {
			more = append(more, link(fmt.Sprintf("0-%d 1 1 1", v)))
		}
		if !checkEstimate(t, more) {
			t.Errorf("Estimate(%v) fails", more)
		}
	}
}

// P18. In each group of cases, one fraction is just valid and then just too large.
func TestEstimateAtTheLimit(t *testing.T) {
	nines := strings.Repeat("9", 216)
	eights := nines[1:] + "8"
	for _, c := range []struct {
		name string
		l    []impl.Link
		want bool
	}{
		{"one great link", links("0-1 " + nines + " -" + nines + " " + nines), true},
		{"a joined weight", links("0-1 "+eights+" 0 0", "0-1 1 0 0"), true},
		{"a joined weight", links("0-1 "+nines+" 0 0", "0-1 1 0 0"), false},
		{"a joined DX", links("0-1 1 "+nines+" 0", "0-1 1 "+eights+" 0"), false},
		{"a joined DY", links("0-1 1 0 "+nines, "0-1 1 0 "+eights), false},
		{"a joined energy", links("0-1 2 "+nines[:108]+" 0", "0-1 2 0 0"), true},
		{"a joined energy", links("0-1 2 1e108 0", "0-1 2 0 0"), false},
		{"two joined energies", links("0-1 2 7e107 0", "0-1 2 0 0", "0-2 2 7e107 0", "0-2 2 0 0"), true},
		{"two joined energies", links("0-1 2 7e107 0", "0-1 2 0 0", "0-2 2 8e107 0", "0-2 2 0 0"), false},
		{"an energy of the elimination", triangles(nines[:108]), true},
		{"an energy of the elimination", triangles("1e108"), false},
		{"two energies of the elimination", triangles("7e107", "7e107"), true},
		{"two energies of the elimination", triangles("7e107", "8e107"), false},
		{"the sum of both", append(triangles("7e107"), links("0-9 2 7e107 0", "0-9 2 0 0")...), true},
		{"the sum of both", append(triangles("7e107"), links("0-9 2 8e107 0", "0-9 2 0 0")...), false},
		{"the sum of both", append(triangles("8e107"), links("0-9 2 7e107 0", "0-9 2 0 0")...), false},
		{"a position in X", links("0-1 1 "+eights+" 0", "1-2 1 1 0"), true},
		{"a position in X", links("0-1 1 "+nines+" 0", "1-2 1 1 0"), false},
		{"a position in Y", links("0-1 1 0 -"+eights, "1-2 1 0 -1"), true},
		{"a position in Y", links("0-1 1 0 -"+nines, "1-2 1 0 -1"), false},
		{"the node with the fewest neighbors is not the first one", links("0-1 1e108 0 0", "1-2 1e108 0 0"), true},
		{"the node with the fewest neighbors is not the last one", links("0-2 1e108 0 0", "1-2 1e108 0 0"), true},
		{"the first one of two nodes with two neighbors", links("0-1 1e109 0 0", "0-2 1e107 0 0", "1-2 1e107 0 0"), false},
		{"the first one of two nodes with two neighbors", links("0-1 1e107 0 0", "0-2 1e109 0 0", "1-2 1e107 0 0"), true},
	} {
		if ok := checkEstimate(t, c.l); ok != c.want {
			t.Errorf("%s: the success of Estimate(%v): %v", c.name, c.l, ok)
		}
		if !c.want {
			checkEstimateFails(t, c.name, c.l)
		}
	}
}

// withoutPosition returns the positions without that of v: what a set without this node has.
func withoutPosition(at []impl.Point, v int) []impl.Point {
	at = placed(at, v, impl.Point{})
	for equalPoint(at[len(at)-1], impl.Point{}) {
		at = at[:len(at)-1]
	}
	return at
}

// checkReduced eliminates v from a grounded set, and compares the positions of all other nodes, and the least energy, before and
// after.
func checkReduced(t *testing.T, set []impl.Link, v int, whole solution) {
	t.Helper()
	c, rest, energy, ok := impl.ReduceNode(set, v)
	if !ok {
		t.Fatalf("ReduceNode(%v, %d) fails", set, v)
	}
	others := withoutPosition(whole.at, v)
	for _, order := range [][]int{linkedNodes(rest), impl.MinDegreeOrder(rest, nil)} {
		net, least, isDone := impl.EliminateAll(rest, order)
		at, isSolved := impl.SolveNet(net)
		if !isDone || !isSolved || !equalPoints(at, others) {
			t.Errorf("without %d, the positions of %v are %v instead of %v", v, set, at, others)
		}
		if sum := limited((*big.Rat).Add, least, energy); !sameRat(sum, whole.energy) {
			t.Errorf("without %d, the energy of %v is %v instead of %v", v, set, sum, whole.energy)
		}
	}
	if p, ok := impl.ApplyConditional(c, others); !ok || !equalPoint(p, whole.at[v]) {
		t.Errorf("the conditional %v puts the node at %v, %v instead of %v", c, p, ok, whole.at[v])
	}
	_, mesh, _ := impl.EliminateNode(set, v)
	at, least, ok := impl.Estimate(append(impl.WithoutNode(set, v), mesh...))
	if !ok || !equalPoints(at, others) || !sameRat(least, whole.energy) {
		t.Errorf("with the new links for %d, the solution of %v is %v, %v, %v", v, set, at, least, ok)
	}
}

// P4. For every set, the rest has the same positions for all other nodes, and the same least energy, with that of ReduceNode.
func TestReduceNodeLeavesThePositionsOfOthers(t *testing.T) {
	for _, set := range everySmallSet() {
		if isGroundedSet(set) {
			whole := denseSolution(t, set)
			for _, v := range linkedNodes(set) {
				checkReduced(t, set, v, whole)
			}
		}
	}
	r := rand.New(rand.NewSource(70))
	for n := range 40 {
		set := groundedSet(r, 2+n%9, n/2)
		whole := denseSolution(t, set)
		for _, v := range linkedNodes(set) {
			checkReduced(t, set, v, whole)
		}
	}
}

// P4, P7. Each conditional of EliminateAll is that of ReduceNode for what the earlier ones have left.
func TestEliminateAllIsReduceNodeByNode(t *testing.T) {
	r := rand.New(rand.NewSource(71))
	for n := range 40 {
		set := groundedSet(r, 2+n%9, n/2)
		order := shuffled(r, linkedNodes(set))
		net, total, _ := impl.EliminateAll(set, order)
		sum, rest := new(big.Rat), set
		for i, v := range order {
			c, left, energy, ok := impl.ReduceNode(rest, v)
			sum.Add(sum, quotientOf(energy))
			again, least, fine := impl.EliminateAll(left, order[i+1:])
			if !ok || !equalConditional(net[i], c) || !fine || !equalNets(again, net[i+1:]) {
				t.Errorf("EliminateAll(%v, %v) has the conditional %v and not %v for %d", set, order, net[i], c, v)
			}
			if quotientOf(total).Cmp(new(big.Rat).Add(sum, quotientOf(least))) != 0 {
				t.Errorf("EliminateAll(%v, %v) has the energy %v, but %v and %v after %d", set, order, total, sum, least, v)
			}
			rest = left
		}
	}
}

// pointsThatDiffer returns lists that differ from each other.
func pointsThatDiffer() [][]impl.Point {
	p, q := point("1", "-2/3"), point("4/5", "6")
	lists := [][]impl.Point{nil, {p}, {q}, {p, q}, {q, p}, {p, p}, {p, q, p}, {p, q, {}}, {{}}, {{}, {}}, {{}, p, q}, {p, {}, q}, {p, point("6", "4/5")}, {point("-2/3", "1"), q}}
	for _, r := range []impl.Rat{
		{}, fraction("0"), fraction("7"), fraction("-1"), fraction("1/1000000007"), fractionOf(true, nil, []int{1}), fractionOf(true, nil, nil), fractionOf(false, []int{6}, []int{2}),
		fractionOf(false, []int{3, 0}, []int{1}), fractionOf(false, []int{3}, []int{1, 0}), fractionOf(false, []int{3}, nil), fractionOf(false, []int{-1}, []int{1}),
	} {
		for i := range 2 {
			first, second := []impl.Point{p, q}, []impl.Point{p, q}
			first[i].X, second[i].Y = r, r
			lists = append(lists, first, second)
		}
	}
	return lists
}

// P18.
func TestSamePoints(t *testing.T) {
	// Two lists that are built apart have no memory in common.
	again := pointsThatDiffer()
	for i, a := range pointsThatDiffer() {
		for j, b := range again {
			if got := impl.SamePoints(a, b); got != (i == j) {
				t.Errorf("SamePoints(%v, %v) = %v", a, b, got)
			}
		}
		if !impl.SamePoints(a, a) {
			t.Errorf("SamePoints(%v) with itself = false", a)
		}
	}
	for _, p := range samplePoints() {
		for _, q := range samplePoints() {
			if got := impl.SamePoints([]impl.Point{p}, []impl.Point{q}); got != equalPoint(p, q) {
				t.Errorf("SamePoints(%v, %v) = %v", p, q, got)
			}
		}
	}
	for i, r := range invalidRats() {
		for j, s := range invalidRats() {
			if got := impl.SamePoints([]impl.Point{{X: r, Y: s}}, []impl.Point{{X: s, Y: r}}); got != sameRat(r, s) {
				t.Errorf("SamePoints of the invalid fractions %d and %d = %v", i, j, got)
			}
		}
	}
}

// P18. Each point of a long list is changed once.
func TestSamePointsAtEveryPlace(t *testing.T) {
	r := rand.New(rand.NewSource(72))
	points := append(randomPoints(r), randomPoints(r)...)
	for i := range points {
		if !impl.SamePoints(points[:i], slices.Clone(points[:i])) || impl.SamePoints(points, points[:i]) || impl.SamePoints(points[:i], points) {
			t.Errorf("SamePoints of %d points", i)
		}
		for _, other := range [][]impl.Point{moved(points, i, fraction("1"), fraction("0")), moved(points, i, fraction("0"), fraction("1")), placed(points, i, impl.Point{})} {
			if impl.SamePoints(points, other) || impl.SamePoints(other, points) {
				t.Errorf("SamePoints of lists that differ at %d = true", i)
			}
		}
	}
}

// P18. Chapter 1: a nil slice and an empty slice are equivalent.
func TestSamePointsOfEmptySlices(t *testing.T) {
	if !impl.SamePoints(nil, nil) || !impl.SamePoints(nil, []impl.Point{}) || !impl.SamePoints([]impl.Point{}, nil) {
		t.Error("SamePoints of nil and no points = false")
	}
	if impl.SamePoints(nil, []impl.Point{{}}) || impl.SamePoints([]impl.Point{{}}, nil) {
		t.Error("SamePoints of nil and a point = true")
	}
	empty, zero := fractionOf(false, []int{}, []int{}), fractionOf(false, []int{}, []int{1})
	if a, b := []impl.Point{{X: empty, Y: zero}}, []impl.Point{{Y: fraction("0")}}; !impl.SamePoints(a, b) || !impl.SamePoints(b, a) {
		t.Errorf("SamePoints(%v, %v) = false", a, b)
	}
}

// P18.
func TestFormatPoints(t *testing.T) {
	nines := strings.Repeat("9", 216)
	for _, c := range []struct {
		name string
		at   []impl.Point
		want string
	}{
		{"no points", nil, ""},
		{"an empty list", []impl.Point{}, ""},
		{"the origin", []impl.Point{point("0", "0")}, "0=0,0"},
		{"one point", []impl.Point{point("-1/2", "7")}, "0=-1/2,7"},
		{"points", []impl.Point{point("0", "0"), point("1", "0"), point("6", "0")}, "0=0,0 1=1,0 2=6,0"},
		{"one point twice", []impl.Point{point("1", "2"), point("1", "2")}, "0=1,2 1=1,2"},
		{"great fractions", []impl.Point{point(nines, "-1/"+nines), point("-"+nines, "1e215")}, "0=" + nines + ",-1/" + nines + " 1=-" + nines + ",1" + strings.Repeat("0", 215)},
		{"no valid point", []impl.Point{{}}, ""},
		{"no valid points", []impl.Point{{}, {}, {}}, ""},
		{"the first point is not valid", []impl.Point{{}, point("1", "2"), point("3", "4")}, "1=1,2 2=3,4"},
		{"the middle point is not valid", []impl.Point{point("1", "2"), {}, point("3", "4")}, "0=1,2 2=3,4"},
		{"the last point is not valid", []impl.Point{point("1", "2"), point("3", "4"), {}}, "0=1,2 1=3,4"},
		{"only the last point is valid", []impl.Point{{}, {}, {}, {}, point("5", "-6")}, "4=5,-6"},
		{"X is not valid", []impl.Point{point("1", "2"), {Y: fraction("3")}, point("5", "6")}, "0=1,2 2=5,6"},
		{"Y is not valid", []impl.Point{point("1", "2"), {X: fraction("3")}, point("5", "6")}, "0=1,2 2=5,6"},
		{"only X is valid", []impl.Point{{X: fraction("3")}}, ""},
		{"only Y is valid", []impl.Point{{Y: fraction("3")}}, ""},
		{"more points than nodes", append(make([]impl.Point, 9), point("1", "2"), point("3", "4"), impl.Point{}, point("5", "6")), "9=1,2 10=3,4 12=5,6"},
		{"many points", append(make([]impl.Point, 12345), point("1", "2")), "12345=1,2"},
	} {
		if got := impl.FormatPoints(c.at); got != c.want {
			t.Errorf("%s: FormatPoints = %q, want %q", c.name, got, c.want)
		}
	}
}

// P18.
func TestFormatPointsOfSamples(t *testing.T) {
	var at []impl.Point
	var words []string
	rats := sampleRats()
	for i, x := range rats {
		y := rats[len(rats)-1-i]
		at = append(at, impl.Point{X: x, Y: y})
		words = append(words, fmt.Sprintf("%d=%s,%s", i, quotientOf(x).RatString(), quotientOf(y).RatString()))
		if got, want := impl.FormatPoints(at), strings.Join(words, " "); got != want {
			t.Fatalf("FormatPoints of %d points = %q, want %q", i+1, got, want)
		}
	}
	for i, r := range invalidRats() {
		for _, p := range []impl.Point{{X: r, Y: fraction("1")}, {X: fraction("1"), Y: r}, {X: r, Y: r}} {
			if got := impl.FormatPoints([]impl.Point{point("1", "2"), p, point("3", "4")}); got != "0=1,2 2=3,4" {
				t.Errorf("FormatPoints with the invalid fraction %d = %q", i, got)
			}
		}
	}
}

// guardedNet returns net at the front of a longer array of guarded conditionals, that array, their arrays of parents, and all
// arrays of rows.
func guardedNet(net []impl.Conditional) ([]impl.Conditional, []impl.Conditional, [][]impl.Parent, [][]int) {
	var whole []impl.Conditional
	var parents [][]impl.Parent
	var rows [][]int
	for _, c := range append(slices.Clone(net), netOf("6:0", "7:0")...) {
		c, wholeParents, more := guardedConditional(c)
		whole, parents, rows = append(whole, c), append(parents, wholeParents), append(rows, more...)
	}
	return whole[:len(net)], whole, parents, rows
}

func equalParents(a, b []impl.Parent) bool { return slices.EqualFunc(a, b, equalParent) }

// batchResult is what a function of the chapter returns, without its bool.
type batchResult struct {
	net    []impl.Conditional
	at     []impl.Point
	energy impl.Rat
}

// spoil writes over all memory of the result, and reports whether its rows and its lists of parents are apart.
func (b batchResult) spoil() bool {
	rows := [][]int{b.energy.Num.Mag, b.energy.Den}
	for i := range b.net {
		for _, r := range conditionalRats(&b.net[i]) {
			rows = append(rows, r.Num.Mag, r.Den)
		}
	}
	for _, p := range b.at {
		rows = append(rows, p.X.Num.Mag, p.X.Den, p.Y.Num.Mag, p.Y.Den)
	}
	apart := spoilRows(rows)
	for i, c := range b.net {
		var before [][]impl.Parent
		for _, later := range b.net[i+1:] {
			before = append(before, slices.Clone(later.Parents))
		}
		clear(c.Parents[:cap(c.Parents)])
		for j, later := range b.net[i+1:] {
			apart = apart && equalParents(later.Parents, before[j])
		}
	}
	clear(b.net[:cap(b.net)])
	clear(b.at[:cap(b.at)])
	return apart
}

// batchCall is a call of a function, of which only the memory of its results matters.
type batchCall struct {
	name string
	run  func(l []impl.Link, order []int, net []impl.Conditional, at []impl.Point) batchResult
}

func batchCalls() []batchCall {
	return []batchCall{
		{"EliminateAll", func(l []impl.Link, order []int, _ []impl.Conditional, _ []impl.Point) batchResult {
			net, energy, _ := impl.EliminateAll(l, order)
			return batchResult{net: net, energy: energy}
		}},
		{"SolveNet", func(_ []impl.Link, _ []int, net []impl.Conditional, _ []impl.Point) batchResult {
			at, _ := impl.SolveNet(net)
			return batchResult{at: at}
		}},
		{"TotalEnergy", func(l []impl.Link, _ []int, _ []impl.Conditional, at []impl.Point) batchResult {
			energy, _ := impl.TotalEnergy(l, at)
			return batchResult{energy: energy}
		}},
		{"Estimate", func(l []impl.Link, _ []int, _ []impl.Conditional, _ []impl.Point) batchResult {
			at, energy, _ := impl.Estimate(l)
			return batchResult{at: at, energy: energy}
		}},
		{"the rest", func(_ []impl.Link, _ []int, net []impl.Conditional, at []impl.Point) batchResult {
			impl.IsNet(net)
			impl.SamePoints(at, at)
			impl.SamePoints(at, at[:len(at)/2])
			impl.FormatPoints(at)
			return batchResult{}
		}},
	}
}

// checkBatchMemory runs all calls with guarded arguments, and writes over their results.
func checkBatchMemory(t *testing.T, l []impl.Link, order []int, net []impl.Conditional, at []impl.Point) {
	t.Helper()
	for _, call := range batchCalls() {
		list, wholeList, rowsList := guardedLinks(l)
		order, wholeOrder := inFrontOf(order, 3, 2, 1)
		guard, wholeNet, parents, rowsNet := guardedNet(net)
		points, wholePoints, rowsPoints := guardedPoints(at)
		rows := slices.Concat(rowsList, rowsNet, rowsPoints, [][]int{wholeOrder})
		before, listBefore, netBefore, pointsBefore := cloneRows(rows), slices.Clone(wholeList), slices.Clone(wholeNet), slices.Clone(wholePoints)
		var parentsBefore [][]impl.Parent
		for _, p := range parents {
			parentsBefore = append(parentsBefore, slices.Clone(p))
		}
		if !call.run(list, order, guard, points).spoil() {
			t.Fatalf("%s(%v, %v, %v, %v): slices of the result share memory", call.name, l, order, net, at)
		}
		isSame := sameRows(rows, before) && equalLinks(wholeList, listBefore) && equalNets(wholeNet, netBefore) && equalPoints(wholePoints, pointsBefore)
		if !isSame || !slices.EqualFunc(parents, parentsBefore, equalParents) {
			t.Fatalf("%s(%v, %v, %v, %v): the arguments are changed", call.name, l, order, net, at)
		}
	}
}

// Chapter 1: arguments and the capacity behind them stay as they are, and results share no memory with them or with each
// other.
func TestBatchMemory(t *testing.T) {
	sets := [][]impl.Link{
		nil, pairSet("0-1"), links("0-1 1 1 1"), links("0-9 1 0 0"), links("0-1 1 0 0", "0-2 1 7 0", "1-2 1 4 0"), links("0-2 1 1 0", "1-2 1 4 0"), links("0-1 1 0 0", "0-1 1 1 1", "1-2 1 1 1"),
		groundedSet(rand.New(rand.NewSource(76)), 10, 6), allLinks(), pairSet("1-2"), pairSet("1-2", "0-1"), links("0-1 1 0 0", "1-2 0 0 0"), links("0-1 1e108 0 0", "1-2 1e108 0 0"), triangles("7e107", "8e107"),
	}
	orders := [][]int{nil, {1}, {2, 1}, {1, 2}, {9}, {9, 1, 8, 2, 7, 3, 6, 4, 5}, {1, 3, 2, 4}, {3, 3, 1}}
	nets := [][]impl.Conditional{
		nil, netOf("1:0"), conditionals("1 1 0:1:0:0"), conditionals("9 1 0:1:1:1"), netOf("1:0,2", "2:0"), netOf("3:2", "2:1", "1:0"), netOf("2:0", "1:0,2"),
		netOf("1:2,5,9", "8:0,9", "3:0,4,6", "7:9", "2:4", "6:4,5", "9:4", "5:0,4", "4:0"),
	}
	points := [][]impl.Point{nil, {point("0", "0"), point("1", "1")}, randomPoints(rand.New(rand.NewSource(73))), make([]impl.Point, 10), {point("1", "2"), {}, point("3", "4")}}
	for _, set := range sets {
		for i, order := range orders {
			checkBatchMemory(t, set, order, nets[i], points[i%len(points)])
		}
		for i, at := range points {
			checkBatchMemory(t, set, orders[i], nets[i+3], at)
		}
	}
}

// Chapter 1: no state is kept between calls, even if the results of earlier calls are written over.
func TestBatchStateIsNotKept(t *testing.T) {
	r := rand.New(rand.NewSource(74))
	set, order := groundedSet(r, 10, 6), []int{9, 1, 8, 2, 7, 3, 6, 4, 5}
	net, _, _ := allEliminatedExactly(set, order)
	for range 3 {
		if !checkBatch(t, set, order) || !checkNet(t, net) || !checkEstimate(t, set) || !checkTotal(t, set, randomPoints(r)) {
			t.Errorf("a function fails for %v", set)
		}
		if !checkBatch(t, nil, nil) || !checkNet(t, nil) || !checkEstimate(t, nil) || !checkTotal(t, nil, nil) {
			t.Error("a function fails for no links")
		}
		for _, call := range batchCalls() {
			if !call.run(set, order, net, nil).spoil() || !call.run(nil, nil, nil, nil).spoil() {
				t.Errorf("%s: slices of the result share memory", call.name)
			}
		}
	}
}
