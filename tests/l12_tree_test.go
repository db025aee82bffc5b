package tests

import (
	"fmt"
	"maps"
	"math"
	"math/big"
	"math/rand"
	"slices"
	"strings"
	"testing"

	"loop.example/g00810/impl"
)

// element shows an element of a tree with texts.
type element struct {
	node, up int
	own      []string
	cond     string
	messages []string
	energy   string
}

func treeOf(elements ...element) impl.Tree {
	var x impl.Tree
	for _, e := range elements {
		x.Nodes = append(x.Nodes, impl.TreeNode{
			Node: e.node, Up: e.up, Own: links(e.own...), Cond: conditional(e.cond), Messages: links(e.messages...), Energy: fraction(e.energy),
		})
	}
	return x
}

// triangleTree returns the tree of the links 0-1 1 0 0, 0-2 1 7 0 and 1-2 1 4 0 in the order 1, 2.
func triangleTree() impl.Tree {
	return treeOf(
		element{1, 2, []string{"0-1 1 0 0", "1-2 1 4 0"}, "1 2 0:1/2:0:0 2:1/2:-4:0", []string{"0-2 1/2 4 0"}, "0"},
		element{2, 0, []string{"0-2 1 7 0"}, "2 3/2 0:1:6:0", nil, "3"},
	)
}

// equalTreeNode does not call SameTree, which is tested with it.
func equalTreeNode(n, m impl.TreeNode) bool {
	return n.Node == m.Node && n.Up == m.Up && equalLinks(n.Own, m.Own) && equalConditional(n.Cond, m.Cond) && equalLinks(n.Messages, m.Messages) &&
		sameRat(n.Energy, m.Energy)
}

func equalTree(x, y impl.Tree) bool { return slices.EqualFunc(x.Nodes, y.Nodes, equalTreeNode) }

// builtExactly returns what BuildTree has to return for valid links.
func builtExactly(l []impl.Link, order []int) (impl.Tree, bool) {
	set, _, ok := joinedExactly(l)
	if !ok || !isEachOnce(linkedNodes(set), order) {
		return impl.Tree{}, false
	}
	var x impl.Tree
	waiting := map[int][]impl.Link{}
	for i, v := range order {
		var own []impl.Link
		// The links of nodes that have been eliminated are gone.
		own, l = linksAt(l, v)
		front, joined, isJoined := joinedExactly(slices.Concat(own, waiting[v]))
		c, messages, reduced, isReduced := reducedExactly(front, v)
		energy := limited((*big.Rat).Add, joined, reduced)
		if !isJoined || !isReduced || isZeroRat(energy) {
			return impl.Tree{}, false
		}
		up := 0
		for _, w := range slices.Backward(order[i+1:]) {
			if slices.ContainsFunc(c.Parents, func(p impl.Parent) bool { return p.Node == w }) {
				up = w
			}
		}
		waiting[up] = append(waiting[up], messages...)
		x.Nodes = append(x.Nodes, impl.TreeNode{Node: v, Up: up, Own: own, Cond: c, Messages: messages, Energy: energy})
	}
	return x, true
}

func nodesOfTree(x impl.Tree) []int {
	var nodes []int
	for _, n := range x.Nodes {
		nodes = append(nodes, n.Node)
	}
	return nodes
}

func linksOfTree(x impl.Tree) []impl.Link {
	var l []impl.Link
	for _, n := range x.Nodes {
		l = append(l, n.Own...)
	}
	return l
}

func netOfTree(x impl.Tree) []impl.Conditional {
	var net []impl.Conditional
	for _, n := range x.Nodes {
		net = append(net, n.Cond)
	}
	return net
}

// isTreeExactly returns what IsTree has to return.
func isTreeExactly(x impl.Tree) bool {
	for _, k := range linksOfTree(x) {
		if !impl.IsValidLink(k) {
			return false
		}
	}
	built, ok := builtExactly(linksOfTree(x), nodesOfTree(x))
	return ok && equalTree(built, x)
}

// pathExactly returns what PathOf has to return for a tree: it looks for each Up in the whole list.
func pathExactly(x impl.Tree, v int) []int {
	var path []int
	for {
		i := slices.Index(nodesOfTree(x), v)
		if i < 0 {
			return path
		}
		path = append(path, v)
		v = x.Nodes[i].Up
	}
}

// treeEnergyExactly returns what TreeEnergy has to return.
func treeEnergyExactly(x impl.Tree) impl.Rat {
	sum := fraction("0")
	for _, n := range x.Nodes {
		if !impl.RatOk(n.Energy) {
			return impl.Rat{}
		}
		sum = limited((*big.Rat).Add, sum, n.Energy)
	}
	return sum
}

func checkBuildFails(t *testing.T, name string, l []impl.Link, order []int) {
	t.Helper()
	if x, ok := impl.BuildTree(l, order); ok || len(x.Nodes) > 0 {
		t.Errorf("%s: BuildTree(%v, %v) = %v, %v", name, l, order, x, ok)
	}
}

// checkParts compares the lists of any tree with those of its elements.
func checkParts(t *testing.T, name string, x impl.Tree) {
	t.Helper()
	if got, want := impl.OrderOf(x), nodesOfTree(x); !slices.Equal(got, want) {
		t.Errorf("%s: OrderOf(%v) = %v, want %v", name, x, got, want)
	}
	if got, want := impl.TreeLinks(x), linksOfTree(x); !equalLinks(got, want) {
		t.Errorf("%s: TreeLinks(%v) = %v, want %v", name, x, got, want)
	}
	if got, want := impl.TreeNet(x), netOfTree(x); !equalNets(got, want) {
		t.Errorf("%s: TreeNet(%v) = %v, want %v", name, x, got, want)
	}
	if got, want := impl.TreeEnergy(x), treeEnergyExactly(x); !sameRat(got, want) {
		t.Errorf("%s: TreeEnergy(%v) = %v, want %v", name, x, got, want)
	}
	var want []impl.Point
	isSolved := impl.IsNet(netOfTree(x))
	if isSolved {
		want, isSolved = netSolvedExactly(netOfTree(x))
	}
	if got, ok := impl.SolveTree(x); ok != isSolved || !equalPoints(got, want) {
		t.Errorf("%s: SolveTree(%v) = %v, %v, want %v, %v", name, x, got, ok, want, isSolved)
	}
}

// checkPaths compares all paths of a tree with those of its elements.
func checkPaths(t *testing.T, x impl.Tree) {
	t.Helper()
	for v := -1; v <= 11; v++ {
		if got, want := impl.PathOf(x, v), pathExactly(x, v); !slices.Equal(got, want) {
			t.Errorf("PathOf(%v, %d) = %v, want %v", x, v, got, want)
		}
	}
}

// checkNoTree checks all functions for a value that BuildTree does not return for its links.
func checkNoTree(t *testing.T, name string, x impl.Tree) {
	t.Helper()
	checkParts(t, name, x)
	if impl.IsTree(x) {
		t.Errorf("%s: IsTree(%v) = true", name, x)
	}
	for _, v := range append(nodesOfTree(x), 0, 1, 2, 9) {
		if path := impl.PathOf(x, v); len(path) > 0 {
			t.Errorf("%s: PathOf(%v, %d) = %v", name, x, v, path)
		}
	}
}

// checkIsTree compares IsTree with the computation of math/big for any tree, and reports what it returns.
func checkIsTree(t *testing.T, name string, x impl.Tree) bool {
	t.Helper()
	want := isTreeExactly(x)
	if got := impl.IsTree(x); got != want {
		t.Errorf("%s: IsTree(%v) = %v", name, x, got)
	}
	if want {
		checkParts(t, name, x)
		checkPaths(t, x)
	} else {
		checkNoTree(t, name, x)
	}
	return want
}

// checkBuild compares BuildTree with the computation of math/big, and reports whether it succeeds.
func checkBuild(t *testing.T, l []impl.Link, order []int) bool {
	t.Helper()
	want, wantOk := builtExactly(l, order)
	got, ok := impl.BuildTree(l, order)
	if ok != wantOk || !equalTree(got, want) {
		t.Errorf("BuildTree(%v, %v) = %v, %v, want %v, %v", l, order, got, ok, want, wantOk)
	}
	if ok {
		checkIsTree(t, "built", got)
	}
	return ok
}

// P6, P7, P18.
func TestBuildTree(t *testing.T) {
	for _, c := range []struct {
		name   string
		l      []string
		order  []int
		want   impl.Tree
		at     string
		energy string
	}{
		{"nothing", nil, nil, impl.Tree{}, "0=0,0", "0"},
		{"one link", []string{"0-1 2/3 5 -6"}, []int{1}, treeOf(element{1, 0, []string{"0-1 2/3 5 -6"}, "1 2/3 0:1:5:-6", nil, "0"}), "0=0,0 1=5,-6", "0"},
		{"one link to the last node", []string{"0-9 7 1/2 3"}, []int{9}, treeOf(element{9, 0, []string{"0-9 7 1/2 3"}, "9 7 0:1:1/2:3", nil, "0"}), "0=0,0 9=1/2,3", "0"},
		{"two links for one pair", []string{"0-1 1 1 0", "0-1 1 -1 0"}, []int{1}, treeOf(element{1, 0, []string{"0-1 1 1 0", "0-1 1 -1 0"}, "1 2 0:1:0:0", nil, "2"}), "0=0,0 1=0,0", "2"},
		{"one link twice", []string{"0-1 1 1 0", "0-1 1 1 0"}, []int{1}, treeOf(element{1, 0, []string{"0-1 1 1 0", "0-1 1 1 0"}, "1 2 0:1:1:0", nil, "0"}), "0=0,0 1=1,0", "0"},
		{"a triangle", []string{"0-1 1 0 0", "0-2 1 7 0", "1-2 1 4 0"}, []int{1, 2}, triangleTree(), "0=0,0 1=1,0 2=6,0", "3"},
		{"a triangle in the other order", []string{"0-1 1 0 0", "0-2 1 7 0", "1-2 1 4 0"}, []int{2, 1}, treeOf(
			element{2, 1, []string{"0-2 1 7 0", "1-2 1 4 0"}, "2 2 0:1/2:7:0 1:1/2:4:0", []string{"0-1 1/2 3 0"}, "0"},
			element{1, 0, []string{"0-1 1 0 0"}, "1 3/2 0:1:1:0", nil, "3"},
		), "0=0,0 1=1,0 2=6,0", "3"},
		{"a triangle, its links in another order", []string{"1-2 1 4 0", "0-2 1 7 0", "0-1 1 0 0"}, []int{1, 2}, treeOf(
			element{1, 2, []string{"1-2 1 4 0", "0-1 1 0 0"}, "1 2 0:1/2:0:0 2:1/2:-4:0", []string{"0-2 1/2 4 0"}, "0"},
			element{2, 0, []string{"0-2 1 7 0"}, "2 3/2 0:1:6:0", nil, "3"},
		), "0=0,0 1=1,0 2=6,0", "3"},
		{"a triangle with more links for its pairs", []string{"0-2 1 8 0", "0-1 1 1 0", "0-2 1 6 0", "0-1 1 -1 0", "1-2 2 4 0"}, []int{1, 2}, treeOf(
			element{1, 2, []string{"0-1 1 1 0", "0-1 1 -1 0", "1-2 2 4 0"}, "1 4 0:1/2:0:0 2:1/2:-4:0", []string{"0-2 1 4 0"}, "2"},
			element{2, 0, []string{"0-2 1 8 0", "0-2 1 6 0"}, "2 3 0:1:6:0", nil, "8"},
		), "0=0,0 1=1,0 2=6,0", "10"},
		{"a chain from its end, without messages", []string{"0-1 1 1 2", "1-2 2 3 -1"}, []int{2, 1}, treeOf(
			element{2, 1, []string{"1-2 2 3 -1"}, "2 2 1:1:3:-1", nil, "0"},
			element{1, 0, []string{"0-1 1 1 2"}, "1 1 0:1:1:2", nil, "0"},
		), "0=0,0 1=1,2 2=4,1", "0"},
		{"a chain from 0, the last node without links of its own", []string{"0-1 1 1 2", "1-2 2 3 -1"}, []int{1, 2}, treeOf(
			element{1, 2, []string{"0-1 1 1 2", "1-2 2 3 -1"}, "1 3 0:1/3:1:2 2:2/3:-3:1", []string{"0-2 2/3 4 1"}, "0"},
			element{2, 0, nil, "2 2/3 0:1:4:1", nil, "0"},
		), "0=0,0 1=1,2 2=4,1", "0"},
		{"a star of 0, each node with the Up 0", []string{"0-2 1 1 1", "0-5 2 3 -4", "0-8 1/2 0 1"}, []int{5, 8, 2}, treeOf(
			element{5, 0, []string{"0-5 2 3 -4"}, "5 2 0:1:3:-4", nil, "0"},
			element{8, 0, []string{"0-8 1/2 0 1"}, "8 1/2 0:1:0:1", nil, "0"},
			element{2, 0, []string{"0-2 1 1 1"}, "2 1 0:1:1:1", nil, "0"},
		), "0=0,0 2=1,1 5=3,-4 8=0,1", "0"},
		{"two nodes with messages for one", []string{"0-1 1 0 0", "0-2 1 0 0", "0-3 1 6 0", "1-3 1 2 0", "2-3 1 4 0"}, []int{1, 2, 3}, treeOf(
			element{1, 3, []string{"0-1 1 0 0", "1-3 1 2 0"}, "1 2 0:1/2:0:0 3:1/2:-2:0", []string{"0-3 1/2 2 0"}, "0"},
			element{2, 3, []string{"0-2 1 0 0", "2-3 1 4 0"}, "2 2 0:1/2:0:0 3:1/2:-4:0", []string{"0-3 1/2 4 0"}, "0"},
			element{3, 0, []string{"0-3 1 6 0"}, "3 2 0:1:9/2:0", nil, "11/2"},
		), "0=0,0 1=5/4,0 2=1/4,0 3=9/2,0", "11/2"},
		{"two nodes with messages for one, which has no links of its own", []string{"0-1 1 0 0", "0-2 1 0 0", "1-3 1 2 0", "2-3 1 4 0"}, []int{2, 1, 3}, treeOf(
			element{2, 3, []string{"0-2 1 0 0", "2-3 1 4 0"}, "2 2 0:1/2:0:0 3:1/2:-4:0", []string{"0-3 1/2 4 0"}, "0"},
			element{1, 3, []string{"0-1 1 0 0", "1-3 1 2 0"}, "1 2 0:1/2:0:0 3:1/2:-2:0", []string{"0-3 1/2 2 0"}, "0"},
			element{3, 0, nil, "3 1 0:1:3:0", nil, "1"},
		), "0=0,0 1=1/2,0 2=-1/2,0 3=3,0", "1"},
		{"messages of other pairs than those of Up", []string{"0-1 1 0 0", "1-2 1 1 0", "1-3 1 0 2", "0-3 1 0 5"}, []int{1, 2, 3}, treeOf(
			element{1, 2, []string{"0-1 1 0 0", "1-2 1 1 0", "1-3 1 0 2"}, "1 3 0:1/3:0:0 2:1/3:-1:0 3:1/3:0:-2", []string{"0-2 1/3 1 0", "0-3 1/3 0 2", "2-3 1/3 -1 2"}, "0"},
			element{2, 3, nil, "2 2/3 0:1/2:1:0 3:1/2:1:-2", []string{"0-3 1/2 0 2"}, "0"},
			element{3, 0, []string{"0-3 1 0 5"}, "3 3/2 0:1:0:4", nil, "3"},
		), "0=0,0 1=0,1 2=1,1 3=0,4", "3"},
		{"energies of the front and of ReduceNode", []string{"0-2 1/3 4 0", "0-1 1 0 0", "1-2 1 1 0", "1-3 1 0 2"}, []int{1, 2, 3}, treeOf(
			element{1, 2, []string{"0-1 1 0 0", "1-2 1 1 0", "1-3 1 0 2"}, "1 3 0:1/3:0:0 2:1/3:-1:0 3:1/3:0:-2", []string{"0-2 1/3 1 0", "0-3 1/3 0 2", "2-3 1/3 -1 2"}, "0"},
			element{2, 3, []string{"0-2 1/3 4 0"}, "2 1 0:2/3:5/2:0 3:1/3:1:-2", []string{"0-3 5/9 3/5 2"}, "9/5"},
			element{3, 0, nil, "3 5/9 0:1:3/5:2", nil, "0"},
		), "0=0,0 1=3/5,0 2=11/5,0 3=3/5,2", "9/5"},
	} {
		l := links(c.l...)
		got, ok := impl.BuildTree(l, c.order)
		if !ok || !equalTree(got, c.want) {
			t.Errorf("%s: BuildTree = %v, %v, want %v", c.name, got, ok, c.want)
		}
		if !checkBuild(t, l, c.order) || !impl.IsTree(c.want) {
			t.Errorf("%s: IsTree(%v) = false", c.name, c.want)
		}
		at, ok := impl.SolveTree(c.want)
		if text := impl.FormatPoints(at); !ok || text != c.at {
			t.Errorf("%s: SolveTree = %s, %v, want %s", c.name, text, ok, c.at)
		}
		if energy := impl.TreeEnergy(c.want); !sameRat(energy, fraction(c.energy)) {
			t.Errorf("%s: TreeEnergy = %v, want %s", c.name, energy, c.energy)
		}
	}
	if x, ok := impl.BuildTree([]impl.Link{}, []int{}); !ok || len(x.Nodes) > 0 {
		t.Errorf("BuildTree of empty lists = %v, %v", x, ok)
	}
}

// checkLayers compares the tree of a grounded list in this order with the functions of the layers before.
func checkLayers(t *testing.T, l, set []impl.Link, order []int, want solution) {
	t.Helper()
	x, ok := impl.BuildTree(l, order)
	if !ok || !slices.Equal(impl.OrderOf(x), order) {
		t.Fatalf("BuildTree(%v, %v) = %v, %v", l, order, x, ok)
	}
	up := impl.EliminationTree(set, order)
	for i, n := range x.Nodes {
		if n.Up != up[i] {
			t.Errorf("BuildTree(%v, %v) has the Up %d for %d instead of %d", l, order, n.Up, n.Node, up[i])
		}
	}
	net, _, ok := impl.EliminateAll(set, order)
	if !ok || !equalNets(impl.TreeNet(x), net) {
		t.Errorf("BuildTree(%v, %v) has the conditionals %v instead of %v, %v", l, order, impl.TreeNet(x), net, ok)
	}
	if at, ok := impl.SolveTree(x); !ok || !equalPoints(at, want.at) {
		t.Errorf("SolveTree of %v in the order %v = %v, %v, want %v", l, order, at, ok, want.at)
	}
	if energy := impl.TreeEnergy(x); !sameRat(energy, want.energy) {
		t.Errorf("TreeEnergy of %v in the order %v = %v, want %v", l, order, energy, want.energy)
	}
}

// listSolution returns the positions of a grounded list that has been joined to set, and their energy.
func listSolution(t *testing.T, l, set []impl.Link) solution {
	t.Helper()
	want := denseSolution(t, set)
	energy, ok := impl.TotalEnergy(l, want.at)
	if !ok || quotientOf(energy).Cmp(totalAt(t, l, want.at)) != 0 {
		t.Fatalf("TotalEnergy(%v, %v) = %v, %v", l, want.at, energy, ok)
	}
	return solution{at: want.at, energy: energy}
}

// doubled returns a list with one, two or three links for each pair of the set, in a random order.
func doubled(r *rand.Rand, set []impl.Link) []impl.Link {
	l := slices.Clone(set)
	for i, k := range set {
		for j := range i % 3 {
			l = append(l, link(fmt.Sprintf("%d-%d %d/2 %d %d", k.A, k.B, i+j+1, 3-j, i-4)))
		}
	}
	return shuffled(r, l)
}

// P6, P7, P18. There is a tree exactly if the set is grounded, and any order leads to the same positions and the same energy. Of
// the 24 orders of four nodes, each set has others.
func TestBuildTreeOfEverySmallSet(t *testing.T) {
	r := rand.New(rand.NewSource(80))
	for n, set := range everySmallSet() {
		l := doubled(r, set)
		joined, _, _ := joinedExactly(l)
		grounded := isGroundedSet(set)
		var want solution
		if grounded {
			want = listSolution(t, l, joined)
		}
		for i, order := range permutations(linkedNodes(set)) {
			if !grounded {
				checkBuildFails(t, "not grounded", l, order)
				continue
			}
			if len(order) < 4 || (n+i)%6 == 0 {
				checkLayers(t, l, joined, order, want)
			}
			if (n+i)%48 == 0 {
				checkBuild(t, l, order)
			}
		}
	}
}

// P6, P7. Sets of all sizes, with up to several links for one pair.
func TestBuildTreeAndTheLayersBefore(t *testing.T) {
	r := rand.New(rand.NewSource(81))
	for n := range 60 {
		l := shuffled(r, groundedLinks(r, 2+n%9, n/2))
		set, _, _ := joinedExactly(l)
		nodes := linkedNodes(set)
		reversed := slices.Clone(nodes)
		slices.Reverse(reversed)
		want := listSolution(t, l, set)
		for _, order := range [][]int{nodes, reversed, shuffled(r, nodes), impl.MinDegreeOrder(set, nil), impl.MinDegreeOrder(set, nodes[:1])} {
			checkLayers(t, l, set, order, want)
		}
		checkBuild(t, l, shuffled(r, nodes))
		checkLeast(t, r, l, want.at, nodes)
	}
}

// P6. The parents of a node are those of the nodes on its path, or 0, and the messages have all pairs of parents.
func TestTreesHaveTheStructureOfTheirOrder(t *testing.T) {
	r := rand.New(rand.NewSource(82))
	for n := range 60 {
		set := groundedSet(r, 2+n%9, n/2)
		order := shuffled(r, linkedNodes(set))
		x, ok := impl.BuildTree(set, order)
		if !ok {
			t.Fatalf("BuildTree(%v, %v) fails", set, order)
		}
		up, deepest := impl.EliminationTree(set, order), 0
		for i, node := range x.Nodes {
			path := impl.PathOf(x, node.Node)
			deepest = max(deepest, len(path))
			for j, v := range path {
				above := up[slices.Index(order, v)]
				if j == len(path)-1 && above != 0 || j < len(path)-1 && above != path[j+1] {
					t.Errorf("PathOf(%v, %d) = %v, but the nodes above are %v", x, node.Node, path, up)
				}
			}
			var parents []int
			for _, p := range node.Cond.Parents {
				parents = append(parents, p.Node)
				if p.Node != 0 && !slices.Contains(path[1:], p.Node) {
					t.Errorf("the parent %d of %d is not on its path %v", p.Node, node.Node, path)
				}
			}
			if got, want := pairsIn(node.Messages), strings.Join(pairNames(parents), " "); got != want {
				t.Errorf("the messages of %d have the pairs %s instead of %s", node.Node, got, want)
			}
			for _, k := range node.Own {
				if k.A != node.Node && k.B != node.Node || slices.Contains(order[:i], k.A) || slices.Contains(order[:i], k.B) {
					t.Errorf("BuildTree(%v, %v) has the link %v at %d", set, order, k, node.Node)
				}
			}
		}
		if height := impl.TreeHeight(order, up); height != deepest {
			t.Errorf("the longest path of %v has %d nodes, but the height is %d", x, deepest, height)
		}
	}
}

// pairNames returns the pairs of these nodes in the form of pairsIn.
func pairNames(nodes []int) []string {
	var names []string
	for i, a := range nodes {
		for _, b := range nodes[i+1:] {
			names = append(names, fmt.Sprintf("%d-%d", a, b))
		}
	}
	return names
}

// P18. With more limbs, some results are too large.
func TestBuildTreeOfRandomLists(t *testing.T) {
	r := rand.New(rand.NewSource(83))
	counts := map[bool]int{}
	for n := range 200 {
		l := groundedLinks(r, 2+n%4, n/40)
		for i, k := range l {
			l[i] = randomLink(r, k.A, k.B, 1+n/4%4)
		}
		counts[checkBuild(t, l, shuffled(r, linkedNodes(l)))]++
	}
	if counts[true] < 40 || counts[false] < 50 {
		t.Errorf("the successes of BuildTree: %v", counts)
	}
}

// P18.
func TestBuildTreeRejectsWhatIsNoOrder(t *testing.T) {
	l := links("0-2 1 7 0", "0-1 1 0 0", "2-5 2 1 1", "0-1 1 3 4", "1-2 1 4 0")
	nodes := []int{1, 2, 5}
	everyList(4, []int{-1, 0, 1, 2, 5, 10}, func(order []int) {
		if isEachOnce(nodes, order) {
			checkBuild(t, l, order)
		} else {
			checkBuildFails(t, "every short list", l, order)
		}
	})
	for _, order := range [][]int{{1, 2, math.MaxInt}, {math.MinInt, 2, 5}, {1, 2, 5, 3}, {1, 2, 5, 9}, {1, 2, 5, 1, 2, 5}, make([]int, 1000)} {
		checkBuildFails(t, "no order", l, order)
	}
	checkBuildFails(t, "no node of the links", links("0-1 1 0 0"), []int{2})
	checkBuildFails(t, "a node of no links", nil, []int{1})
	checkBuildFails(t, "node 0 of no links", nil, []int{0})
	checkBuildFails(t, "no order of links", links("0-1 1 0 0"), nil)
	checkBuildFails(t, "node 0 at the end", links("0-1 1 0 0"), []int{1, 0})
	checkBuildFails(t, "a node for each link of one pair", links("0-1 1 0 0", "0-1 1 0 0"), []int{1, 1})
}

// P18.
func TestBuildTreeRejectsInvalidLinks(t *testing.T) {
	valid := links("0-1 1 0 0", "1-9 1 5 5", "0-1 1 0 2")
	if !checkBuild(t, valid, []int{1, 9}) || !checkBuild(t, valid, []int{9, 1}) {
		t.Errorf("BuildTree(%v) fails", valid)
	}
	for _, k := range invalidLinks() {
		for _, order := range [][]int{nil, {1}, {k.B}, {k.A, k.B}, {k.B, k.A}} {
			checkBuildFails(t, "an invalid link alone", []impl.Link{k}, order)
		}
		for i := range len(valid) + 1 {
			l := slices.Insert(slices.Clone(valid), i, k)
			for _, order := range [][]int{{1, 9}, {9, 1}, {1, 3, 9}, {1, 9, 3, 10}, {0, 1, 9}, nil} {
				checkBuildFails(t, fmt.Sprintf("an invalid link at %d", i), l, order)
			}
		}
	}
}

// P7, P18. A node that is not linked with node 0 has an empty front when all others of its component have been eliminated.
func TestBuildTreeOfLinksThatAreNotGrounded(t *testing.T) {
	for _, l := range [][]impl.Link{
		links("1-2 1 0 0"), links("1-2 1 0 0", "1-2 1 3 4"), links("8-9 1 0 0"), links("1-2 1 0 0", "1-3 1 1 1", "2-3 2 2 2"), links("0-1 1 0 0", "2-3 1 1 1"), links("0-3 1 0 0", "1-2 1 1 1"),
		links("2-3 1 1 1", "0-9 1 0 0", "1-2 1 4 0", "8-9 1 0 0"),
	} {
		set, _, _ := joinedExactly(l)
		more := slices.Clone(l)
		for _, v := range linkedNodes(set) {
			more = append(more, link(fmt.Sprintf("0-%d 1 1 1", v)))
		}
		for _, order := range permutations(linkedNodes(set)) {
			checkBuildFails(t, "not grounded", l, order)
			if !checkBuild(t, more, order) {
				t.Errorf("BuildTree(%v, %v) fails", more, order)
			}
		}
	}
}

// P18. In each group of cases, one fraction is just valid and then just too large.
func TestBuildTreeAtTheLimit(t *testing.T) {
	nines, zeros := strings.Repeat("9", 216), strings.Repeat("0", 106)
	eights := nines[1:] + "8"
	// If dx is x, node 2 has 50 * x * x as the energy of its front and 10 * x * x as that of ReduceNode.
	star := func(x string) []impl.Link {
		return links("0-1 300 0 0", "0-2 100 "+x+" 0", "1-2 300 0 0", "1-3 300 0 0")
	}
	// Here, it has 100/11 * x * x and 800/33 * x * x.
	steep := func(x string) []impl.Link {
		return links("0-1 100 0 0", "0-2 100 "+x+" 0", "1-2 100 0 0", "1-3 800 0 0")
	}
	// Nodes 1, 2 and 3 have messages for node 9. In this order, the average of the first two is 0, and in the other one, there are
	// great denominators on the way.
	p, q := "1"+zeros[:52]+"1", "1"+zeros[:52]+"3"
	square := new(big.Rat).Mul(quotientOf(fraction(p)), quotientOf(fraction(p)))
	great := square.Add(square, square).RatString()
	messages := links("0-1 "+great+" 0 0", "1-9 "+great+" 1/"+p+" 0", "0-2 "+great+" 0 0", "2-9 "+great+" -1/"+p+" 0", "0-3 2 0 0", "3-9 2 1/"+q+" 0")
	for _, c := range []struct {
		name  string
		l     []impl.Link
		order []int
		want  bool
	}{
		{"one great link", links("0-1 " + nines + " -" + nines + " " + nines), []int{1}, true},
		{"a weight of one pair", links("0-1 "+eights+" 0 0", "0-1 1 0 0"), []int{1}, true},
		{"a weight of one pair", links("0-1 "+nines+" 0 0", "0-1 1 0 0"), []int{1}, false},
		{"the energy of one pair", links("0-1 2 "+nines[:108]+" 0", "0-1 2 0 0"), []int{1}, true},
		{"the energy of one pair", links("0-1 2 0 1e108", "0-1 2 0 0"), []int{1}, false},
		{"a weight of a link and a message", links("0-1 2 0 0", "1-2 2 0 0", "0-2 "+eights+" 0 0"), []int{1, 2}, true},
		{"a weight of a link and a message", links("0-1 2 0 0", "1-2 2 0 0", "0-2 "+nines+" 0 0"), []int{1, 2}, false},
		{"a weight of two messages", links("0-1 2 0 0", "1-2 2 0 0", "0-3 2 0 0", "2-3 2 0 0", "0-2 "+nines[1:]+"7 0 0"), []int{1, 3, 2}, true},
		{"a weight of two messages", links("0-1 2 0 0", "1-2 2 0 0", "0-3 2 0 0", "2-3 2 0 0", "0-2 "+eights+" 0 0"), []int{1, 3, 2}, false},
		{"the energy of a link and a message", triangles(nines[:108]), []int{1, 2}, true},
		{"the energy of a link and a message", triangles("1e108"), []int{1, 2}, false},
		{"a product of weights", links("0-1 1e108 0 0", "1-2 1e108 0 0"), []int{1, 2}, false},
		{"a product of weights in the other order", links("0-1 1e108 0 0", "1-2 1e108 0 0"), []int{2, 1}, true},
		{"DX of a message", links("0-1 1 "+eights+" 0", "1-2 1 1 0"), []int{1, 2}, true},
		{"DX of a message", links("0-1 1 "+nines+" 0", "1-2 1 1 0"), []int{1, 2}, false},
		{"only a position", links("0-1 1 "+nines+" 0", "1-2 1 1 0"), []int{2, 1}, true},
		{"an energy of ReduceNode", steep("165" + zeros[1:]), []int{1, 2, 3}, true},
		{"an energy of ReduceNode", steep("22" + zeros), []int{1, 2, 3}, false},
		{"an energy of ReduceNode in the other order", steep("165" + zeros[1:]), []int{3, 1, 2}, true},
		{"both energies of one node", star("12" + zeros), []int{1, 2, 3}, true},
		{"both energies of one node", star("135" + zeros[1:]), []int{1, 2, 3}, false},
		{"messages in the order of their nodes", messages, []int{1, 2, 3, 9}, true},
		{"messages in the order of their nodes", messages, []int{2, 1, 3, 9}, true},
		{"messages in the order of their nodes", messages, []int{3, 2, 1, 9}, false},
		{"messages in the order of their nodes", messages, []int{3, 1, 2, 9}, false},
		{"only the sum of the energies of two nodes", triangles("7e107", "8e107"), []int{1, 3, 2, 4}, true},
		{"the energy of two pairs", links("0-1 2 7e107 0", "0-1 2 0 0", "0-2 2 7e107 0", "0-2 2 0 0"), []int{1, 2}, true},
		{"the energy of two pairs, which JoinLinks of all links has", links("0-1 2 7e107 0", "0-1 2 0 0", "0-2 2 8e107 0", "0-2 2 0 0"), []int{1, 2}, false},
		{"the same energies without those of pairs", append(triangles("7e107"), links("0-9 2 8e107 0", "0-9 2 0 0")...), []int{1, 2, 9}, true},
	} {
		if ok := checkBuild(t, c.l, c.order); ok != c.want {
			t.Errorf("%s: the success of BuildTree(%v, %v): %v", c.name, c.l, c.order, ok)
		}
		if !c.want {
			checkBuildFails(t, c.name, c.l, c.order)
		}
	}
}

// P18. A sum of energies can be too large on the way, which depends on the order of the links: TreeLinks has another one.
func TestIsTreeOfLinksThatCannotBeJoinedInTheOrderOfTheTree(t *testing.T) {
	nines, zeros := strings.Repeat("9", 216), strings.Repeat("0", 53)
	var l []impl.Link
	for i, dx := range []string{"8" + nines[:54] + "/9" + zeros + "1", "6" + zeros[:27] + "/9" + zeros + "1", "1e-54"} {
		l = append(l, links(fmt.Sprintf("0-%d 2 %s 0", i+1, dx), fmt.Sprintf("0-%d 2 0 0", i+1))...)
	}
	for _, order := range permutations([]int{1, 2, 3}) {
		x, ok := impl.BuildTree(l, order)
		if !ok {
			t.Fatalf("BuildTree(%v, %v) fails", l, order)
		}
		isLast := order[2] == 3
		if isTree := checkIsTree(t, "great denominators", x); isTree != isLast || impl.RatOk(impl.TreeEnergy(x)) != isLast {
			t.Errorf("in the order %v: IsTree = %v, TreeEnergy = %v", order, isTree, impl.TreeEnergy(x))
		}
	}
}

// strangeTrees returns values that BuildTree does not return for any links.
func strangeTrees() map[string]impl.Tree {
	l := map[string]impl.Tree{
		"an element that is the zero value":    {Nodes: []impl.TreeNode{{}}},
		"two elements that are the zero value": {Nodes: []impl.TreeNode{{}, {}}},
		"only nodes":                           {Nodes: []impl.TreeNode{{Node: 1}, {Node: 2, Up: 1}}},
		"only energies":                        {Nodes: []impl.TreeNode{{Energy: fraction("1")}, {Energy: fraction("-1/2")}}},
		"only links":                           {Nodes: []impl.TreeNode{{Own: links("1-2 1 0 0")}, {}, {Own: links("1-2 1 0 0", "0-1 1 0 0")}}},
		"only conditionals":                    {Nodes: []impl.TreeNode{{Cond: conditional("1 2 0:1/2:0:0 2:1/2:-4:0")}, {Cond: conditional("2 3/2 0:1:6:0")}}},
		"only messages":                        {Nodes: []impl.TreeNode{{Messages: links("0-1 1 0 0")}, {Messages: links("1-2 1 0 0", "1-2 1 0 0")}}},
		"more than all nodes":                  {Nodes: make([]impl.TreeNode, 100)},
		"numbers that are no nodes": {Nodes: []impl.TreeNode{
			{Node: -1, Up: 10, Energy: fraction("3")}, {Node: 10, Up: -1, Own: links("3-3 0 1 1", "10-12 -1 0 0")}, {Node: math.MaxInt, Up: math.MinInt, Cond: conditional("0 -1")},
		}},
	}
	for i, r := range invalidRats() {
		k, c := link("0-1 1 0 0"), conditional("1 1 0:1:0:0")
		*linkRats(&k)[i%3], *conditionalRats(&c)[i%4] = r, r
		l[fmt.Sprintf("the invalid fraction %d everywhere", i)] = impl.Tree{Nodes: []impl.TreeNode{{Node: 1, Own: []impl.Link{k}, Cond: c, Messages: []impl.Link{k, k}, Energy: r}}}
		l[fmt.Sprintf("the invalid fraction %d as Energy", i)] = treeOf(element{1, 0, []string{"0-1 1 0 0"}, "1 1 0:1:0:0", nil, "0"})
		l[fmt.Sprintf("the invalid fraction %d as Energy", i)].Nodes[0].Energy = r
	}
	for i, k := range invalidLinks() {
		c := conditional(fmt.Sprintf("%d 1 %d:1:0:0", k.B, k.A))
		l[fmt.Sprintf("the invalid link %d", i)] = impl.Tree{Nodes: []impl.TreeNode{{Node: k.B, Own: []impl.Link{k}, Cond: c, Energy: fraction("0")}}}
		l[fmt.Sprintf("the invalid link %d as a message", i)] = treeOf(element{1, 0, []string{"0-1 1 0 0"}, "1 1 0:1:0:0", nil, "0"})
		l[fmt.Sprintf("the invalid link %d as a message", i)].Nodes[0].Messages = []impl.Link{k}
	}
	for name, c := range invalidConditionals() {
		l[name] = impl.Tree{Nodes: []impl.TreeNode{{Node: c.Node, Own: links("0-1 1 0 0"), Cond: c, Energy: fraction("0")}}}
	}
	return l
}

// P18.
func TestTreesThatNoBuildTreeReturned(t *testing.T) {
	for name, x := range strangeTrees() {
		checkNoTree(t, name, x)
	}
	for _, x := range []impl.Tree{{}, {Nodes: []impl.TreeNode{}}} {
		if order, l, net := impl.OrderOf(x), impl.TreeLinks(x), impl.TreeNet(x); len(order) > 0 || len(l) > 0 || len(net) > 0 {
			t.Errorf("the lists of an empty tree are %v, %v, %v", order, l, net)
		}
		if !checkIsTree(t, "empty", x) {
			t.Error("IsTree of an empty tree = false")
		}
	}
}

// variantsOf returns copies of an element that differ from it in one field, or in an element of this field.
func variantsOf(n impl.TreeNode) map[string]impl.TreeNode {
	l := map[string]impl.TreeNode{}
	for _, v := range []int{math.MinInt, -1, 0, 1, 2, 3, 4, 8, 9, 10, math.MaxInt} {
		m := n
		if m.Node = v; v != n.Node {
			l[fmt.Sprintf("Node %d", v)] = m
		}
		m = n
		if m.Up = v; v != n.Up {
			l[fmt.Sprintf("Up %d", v)] = m
		}
	}
	for i, r := range append(invalidRats(), fraction("1/1000000007"), fraction("-3"), fraction("1/3"), fraction("7")) {
		m := n
		m.Energy = r
		l[fmt.Sprintf("Energy %d", i)] = m
		for place := range len(conditionalRats(&m.Cond)) {
			m := n
			m.Cond.Parents = slices.Clone(m.Cond.Parents)
			*conditionalRats(&m.Cond)[place] = r
			l[fmt.Sprintf("Cond with the fraction %d at %d", i, place)] = m
		}
		for name, list := range listsWith(n.Own, r) {
			m := n
			m.Own = list
			l[fmt.Sprintf("Own with the fraction %d at %s", i, name)] = m
		}
		for name, list := range listsWith(n.Messages, r) {
			m := n
			m.Messages = list
			l[fmt.Sprintf("Messages with the fraction %d at %s", i, name)] = m
		}
	}
	for name, list := range listsBeside(n.Own) {
		m := n
		m.Own = list
		l["Own: "+name] = m
	}
	for name, list := range listsBeside(n.Messages) {
		m := n
		m.Messages = list
		l["Messages: "+name] = m
	}
	for i, c := range append(conditionalsThatDiffer(), conditional("3 4 1:1/3:5:6 7:2/3:8:9")) {
		m := n
		m.Cond = c
		l[fmt.Sprintf("Cond: %d", i)] = m
	}
	return l
}

// listsWith returns copies of a list with the fraction r at one place.
func listsWith(l []impl.Link, r impl.Rat) map[string][]impl.Link {
	lists := map[string][]impl.Link{}
	for i := range l {
		for field := range 3 {
			other := slices.Clone(l)
			*linkRats(&other[i])[field] = r
			lists[fmt.Sprintf("%d of link %d", field, i)] = other
		}
	}
	return lists
}

// listsBeside returns lists that have other links than l, or more or fewer of them.
func listsBeside(l []impl.Link) map[string][]impl.Link {
	more := link("0-9 1/2 3 4")
	lists := map[string][]impl.Link{"a link more at the end": append(slices.Clone(l), more), "a link more at the front": append([]impl.Link{more}, l...)}
	for i, k := range l {
		lists[fmt.Sprintf("without link %d", i)] = slices.Delete(slices.Clone(l), i, i+1)
		lists[fmt.Sprintf("link %d twice", i)] = slices.Insert(slices.Clone(l), i, k)
		for j, other := range []impl.Link{{A: k.A, B: k.B + 1}, {A: k.A - 1, B: k.B}, {A: k.B, B: k.A}} {
			changed := slices.Clone(l)
			changed[i].A, changed[i].B = other.A, other.B
			lists[fmt.Sprintf("link %d with the ends %d", i, j)] = changed
		}
	}
	return lists
}

// withElement returns a copy of the tree with another element at i.
func withElement(x impl.Tree, i int, n impl.TreeNode) impl.Tree {
	x.Nodes = slices.Clone(x.Nodes)
	x.Nodes[i] = n
	return x
}

// severalTrees returns the trees of links in all fields of which there is something.
func severalTrees() []impl.Tree {
	var trees []impl.Tree
	for _, c := range []struct {
		l     []string
		order []int
	}{
		{[]string{"0-1 2/3 5 -6"}, []int{1}},
		{[]string{"0-1 1 1 0", "0-1 1 -1 0"}, []int{1}},
		{[]string{"0-1 1 0 0", "0-2 1 7 0", "1-2 1 4 0"}, []int{2, 1}},
		{[]string{"0-1 1 1 2", "1-2 2 3 -1"}, []int{1, 2}},
		{[]string{"0-2 1/3 4 0", "0-1 1 0 0", "1-2 1 1 0", "1-3 1 0 2"}, []int{1, 2, 3}},
		{[]string{"0-1 1 0 0", "0-3 2 0 0", "0-3 1 6 0", "3-8 1 2 0", "1-8 1 4 0"}, []int{1, 3, 8}},
	} {
		x, ok := builtExactly(links(c.l...), c.order)
		if !ok {
			panic("no tree")
		}
		trees = append(trees, x)
	}
	return trees
}

// P18. One field of one element is changed, or an element is the zero value.
func TestIsTreeAndSameTreeOfTreesWithOneChange(t *testing.T) {
	for _, x := range severalTrees() {
		if !checkIsTree(t, "unchanged", x) || !impl.SameTree(x, withElement(x, 0, x.Nodes[0])) {
			t.Errorf("IsTree(%v) = false", x)
		}
		for i, n := range x.Nodes {
			for name, m := range variantsOf(n) {
				if equalTreeNode(n, m) {
					continue
				}
				changed := withElement(x, i, m)
				if impl.IsTree(changed) || len(impl.PathOf(changed, x.Nodes[len(x.Nodes)-1].Node)) > 0 {
					t.Errorf("%s of element %d: IsTree(%v) = true", name, i, changed)
				}
				if impl.SameTree(x, changed) || impl.SameTree(changed, x) {
					t.Errorf("%s of element %d: SameTree(%v, %v) = true", name, i, x, changed)
				}
			}
			checkNoTree(t, "the zero value", withElement(x, i, impl.TreeNode{}))
		}
	}
}

// P18. The parts of trees that are changed are those of the change.
func TestPartsOfTreesWithOneChange(t *testing.T) {
	for i, x := range severalTrees() {
		for j, n := range x.Nodes {
			for name, m := range variantsOf(n) {
				if (i+j+len(name))%3 == 0 {
					checkParts(t, name, withElement(x, j, m))
				}
			}
		}
	}
}

// P18. Elements that do not depend on each other can be exchanged, and an element whose messages nobody needs can be missing.
func TestIsTreeOfOtherLists(t *testing.T) {
	star, _ := builtExactly(links("0-2 1 1 1", "0-5 2 3 -4", "0-8 1/2 0 1"), []int{5, 8, 2})
	chain, _ := builtExactly(links("0-1 1 1 2", "1-2 2 3 -1"), []int{2, 1})
	both, _ := builtExactly(links("0-1 1 0 0", "0-2 1 0 0", "0-3 1 6 0", "1-3 1 2 0", "2-3 1 4 0"), []int{1, 2, 3})
	pick := func(x impl.Tree, places ...int) impl.Tree {
		var y impl.Tree
		for _, i := range places {
			y.Nodes = append(y.Nodes, x.Nodes[i])
		}
		return y
	}
	turned := pick(both, 0, 1, 2)
	turned.Nodes[0].Own = []impl.Link{both.Nodes[0].Own[1], both.Nodes[0].Own[0]}
	given := pick(both, 0, 1, 2)
	given.Nodes[0].Own, given.Nodes[2].Own = both.Nodes[0].Own[:1], append(slices.Clone(both.Nodes[2].Own), both.Nodes[0].Own[1])
	for _, c := range []struct {
		name string
		x    impl.Tree
		want bool
	}{
		{"a triangle", triangleTree(), true},
		{"a triangle, exchanged", pick(triangleTree(), 1, 0), false},
		{"a triangle without its first element", pick(triangleTree(), 1), false},
		{"a triangle without its last element", pick(triangleTree(), 0), false},
		{"a triangle, its first element twice", pick(triangleTree(), 0, 0, 1), false},
		{"a triangle, its last element twice", pick(triangleTree(), 0, 1, 1), false},
		{"a star, exchanged", pick(star, 2, 1, 0), true},
		{"a star, exchanged once", pick(star, 1, 0, 2), true},
		{"a star without its first element", pick(star, 1, 2), true},
		{"a star without its last element", pick(star, 0, 1), true},
		{"one element of a star", pick(star, 1), true},
		{"a star, an element twice", pick(star, 0, 1, 2, 0), false},
		{"a chain", chain, true},
		{"a chain without its first element", pick(chain, 1), true},
		{"a chain without its last element", pick(chain, 0), false},
		{"a chain, exchanged", pick(chain, 1, 0), false},
		{"two messages, exchanged", pick(both, 1, 0, 2), true},
		{"two messages, the first one missing", pick(both, 1, 2), false},
		{"two messages, the last one missing", pick(both, 0, 2), false},
		{"two messages, the first one at the end", pick(both, 1, 2, 0), false},
		{"two messages without Up", pick(both, 0, 1), false},
		{"the own links in another order", turned, true},
		{"a link of the first node at the last one", given, false},
		{"elements of two trees", impl.Tree{Nodes: append(pick(star, 0, 1, 2).Nodes, both.Nodes...)}, false},
		{"elements of two trees without a node in common", impl.Tree{Nodes: append(pick(star, 0, 1).Nodes, both.Nodes...)}, true},
	} {
		if got := checkIsTree(t, c.name, c.x); got != c.want {
			t.Errorf("%s: IsTree(%v) = %v", c.name, c.x, got)
		}
	}
}

// P18. All lists of elements of a tree.
func TestIsTreeOfEveryListOfElements(t *testing.T) {
	counts := map[bool]int{}
	for _, x := range severalTrees()[2:] {
		var places []int
		for i := range x.Nodes {
			places = append(places, i)
		}
		everyList(4, places, func(l []int) {
			var y impl.Tree
			for _, i := range l {
				y.Nodes = append(y.Nodes, x.Nodes[i])
			}
			counts[checkIsTree(t, "elements", y)]++
			same := slices.Equal(l, places)
			if impl.SameTree(x, y) != same || impl.SameTree(y, x) != same {
				t.Errorf("SameTree(%v, %v) is not %v", x, y, same)
			}
		})
	}
	if counts[true] < 8 || counts[false] < 100 {
		t.Errorf("the numbers of trees: %v", counts)
	}
}

// treesThatDiffer returns trees that differ from each other.
func treesThatDiffer() []impl.Tree {
	x := triangleTree()
	first, last := x.Nodes[0], x.Nodes[1]
	var trees []impl.Tree
	for _, nodes := range [][]impl.TreeNode{nil, {{}}, {{}, {}}, {first}, {last}, {first, last}, {last, first}, {first, last, {}}, {first, last, first}, {{}, first, last}} {
		trees = append(trees, impl.Tree{Nodes: nodes})
	}
	for i := range x.Nodes {
		for _, change := range []func(n *impl.TreeNode){
			func(n *impl.TreeNode) { n.Node = 7 }, func(n *impl.TreeNode) { n.Node = -n.Node }, func(n *impl.TreeNode) { n.Up = 7 }, func(n *impl.TreeNode) { n.Up = -1 },
			func(n *impl.TreeNode) { n.Own = nil }, func(n *impl.TreeNode) { n.Own = links("0-1 1 0 0", "1-2 1 4 1") }, func(n *impl.TreeNode) { n.Own = links("1-2 1 4 0", "0-1 1 0 0") },
			func(n *impl.TreeNode) { n.Own = []impl.Link{{}} }, func(n *impl.TreeNode) { n.Own, n.Messages = n.Messages, n.Own }, func(n *impl.TreeNode) { n.Cond = conditional("1 2 0:1/2:0:0 2:1/2:-4:1") },
			func(n *impl.TreeNode) { n.Cond = conditional("2 2 0:1:6:0") }, func(n *impl.TreeNode) { n.Cond.Parents = nil }, func(n *impl.TreeNode) { n.Cond = impl.Conditional{} },
			func(n *impl.TreeNode) { n.Messages = links("0-2 1/2 4 1") }, func(n *impl.TreeNode) { n.Messages = links("0-2 1/2 4 0", "0-2 1/2 4 0") }, func(n *impl.TreeNode) { n.Messages = []impl.Link{{}} },
			func(n *impl.TreeNode) { n.Energy = fraction("1") }, func(n *impl.TreeNode) { n.Energy = fraction("-3") }, func(n *impl.TreeNode) { n.Energy = impl.Rat{} },
			func(n *impl.TreeNode) { n.Energy = fractionOf(true, nil, []int{1}) }, func(n *impl.TreeNode) { n.Energy = fractionOf(false, []int{6}, []int{2}) },
		} {
			y := triangleTree()
			change(&y.Nodes[i])
			trees = append(trees, y)
		}
	}
	return trees
}

// P18.
func TestSameTree(t *testing.T) {
	// Two trees that are built apart have no memory in common.
	again := treesThatDiffer()
	for i, x := range treesThatDiffer() {
		for j, y := range again {
			if got := impl.SameTree(x, y); got != (i == j) {
				t.Errorf("SameTree(%v, %v) = %v", x, y, got)
			}
		}
		if !impl.SameTree(x, x) {
			t.Errorf("SameTree(%v) with itself = false", x)
		}
	}
	for i, x := range severalTrees() {
		for j, y := range severalTrees() {
			if got := impl.SameTree(x, y); got != (i == j) {
				t.Errorf("SameTree(%v, %v) = %v", x, y, got)
			}
		}
	}
	others, triangle := strangeTrees(), triangleTree()
	for name, x := range strangeTrees() {
		if !impl.SameTree(x, others[name]) || impl.SameTree(x, triangle) {
			t.Fatalf("%s: SameTree(%v) is wrong", name, x)
		}
	}
}

// P18. Chapter 1: a nil slice and an empty slice are equivalent.
func TestTreesWithEmptySlices(t *testing.T) {
	if !impl.SameTree(impl.Tree{}, impl.Tree{Nodes: []impl.TreeNode{}}) || !impl.SameTree(impl.Tree{Nodes: []impl.TreeNode{}}, impl.Tree{}) {
		t.Error("SameTree of no elements = false")
	}
	zero, none := fractionOf(false, []int{}, []int{1}), fractionOf(false, []int{}, []int{})
	full := impl.TreeNode{Own: []impl.Link{}, Cond: impl.Conditional{Total: none, Parents: []impl.Parent{}}, Messages: []impl.Link{}, Energy: none}
	for _, c := range [][2]impl.TreeNode{
		{{}, full}, {{Energy: fraction("0")}, {Energy: zero}}, {{Own: links("0-1 1 0 0")}, {Own: []impl.Link{{B: 1, Weight: fraction("1"), DX: zero, DY: zero}}, Messages: []impl.Link{}}},
	} {
		x, y := impl.Tree{Nodes: []impl.TreeNode{c[0]}}, impl.Tree{Nodes: []impl.TreeNode{c[1]}}
		if !impl.SameTree(x, y) || !impl.SameTree(y, x) {
			t.Errorf("SameTree(%v, %v) = false", x, y)
		}
	}
	// An element of a tree without links of its own and without messages.
	for _, list := range [][]impl.Link{nil, {}} {
		x, ok := builtExactly(links("0-1 1 1 2", "1-2 2 3 -1"), []int{1, 2})
		x.Nodes[1].Own, x.Nodes[1].Messages = list, list
		if !ok || !checkIsTree(t, "empty slices", x) {
			t.Errorf("IsTree(%v) = false", x)
		}
	}
	if x := (impl.Tree{Nodes: []impl.TreeNode{}}); !impl.IsTree(x) || !sameRat(impl.TreeEnergy(x), fraction("0")) || len(impl.PathOf(x, 0)) > 0 {
		t.Error("a tree without elements is no tree")
	}
}

// P7, P18. SolveTree looks at the conditionals alone.
func TestSolveTree(t *testing.T) {
	nines := strings.Repeat("9", 216)
	for _, c := range []struct {
		name string
		net  []string
		want string
		ok   bool
	}{
		{"no elements", nil, "0=0,0", true},
		{"one element", []string{"1 2/3 0:1:5:-6"}, "0=0,0 1=5,-6", true},
		{"a triangle", []string{"1 2 0:1/2:0:0 2:1/2:-4:0", "2 3/2 0:1:6:0"}, "0=0,0 1=1,0 2=6,0", true},
		{"numbers that are no Node", []string{"3 1 5:1:1:1", "5 1 0:1:2:-3"}, "0=0,0 3=3,-2 5=2,-3", true},
		{"exchanged", []string{"2 3/2 0:1:6:0", "1 2 0:1/2:0:0 2:1/2:-4:0"}, "", false},
		{"a parent that is missing", []string{"1 2 0:1/2:0:0 2:1/2:-4:0"}, "", false},
		{"one Node twice", []string{"1 1 0:1:0:0", "1 1 0:1:0:0"}, "", false},
		{"node 0", []string{"0 1 1:1:0:0", "1 1 0:1:0:0"}, "", false},
		{"MaxNodes", []string{"10 1 0:1:0:0"}, "", false},
		{"Total 0", []string{"1 0 0:1:0:0"}, "", false},
		{"no parents", []string{"1 1"}, "", false},
		{"Shares below 1", []string{"1 2 0:1/2:0:0"}, "", false},
		{"a great position", []string{"2 1 1:1:1:0", "1 1 0:1:" + nines[1:] + "8:0"}, "0=0,0 1=" + nines[1:] + "8,0 2=" + nines + ",0", true},
		{"a position that is too large", []string{"2 1 1:1:1:0", "1 1 0:1:" + nines + ":0"}, "", false},
	} {
		var x impl.Tree
		for i, text := range c.net {
			// The other fields do not matter.
			x.Nodes = append(x.Nodes, impl.TreeNode{Node: 7 - i, Up: i, Own: []impl.Link{{}}, Cond: conditional(text), Energy: fraction("-1")})
		}
		at, ok := impl.SolveTree(x)
		if text := impl.FormatPoints(at); ok != c.ok || text != c.want || !ok && len(at) > 0 {
			t.Errorf("%s: SolveTree = %s, %v, want %s, %v", c.name, text, ok, c.want, c.ok)
		}
		checkParts(t, c.name, x)
	}
	for name, c := range invalidConditionals() {
		x := triangleTree()
		for _, nodes := range [][]impl.TreeNode{{{Cond: c}}, {{Cond: c}, x.Nodes[0], x.Nodes[1]}, {x.Nodes[0], x.Nodes[1], {Cond: c}}} {
			if at, ok := impl.SolveTree(impl.Tree{Nodes: nodes}); ok || len(at) > 0 {
				t.Errorf("%s: SolveTree(%v) = %v, %v", name, nodes, at, ok)
			}
		}
	}
}

// P7, P18. TreeEnergy looks at the energies alone.
func TestTreeEnergy(t *testing.T) {
	nines := strings.Repeat("9", 216)
	eights := nines[1:] + "8"
	// Two denominators of 110 digits.
	p, q := "1"+strings.Repeat("0", 108)+"1", "1"+strings.Repeat("0", 108)+"3"
	rest := nines[:109] + "/" + p
	for _, c := range []struct {
		name     string
		energies []string
		want     string
	}{
		{"no elements", nil, "0"},
		{"one element", []string{"2/3"}, "2/3"},
		{"one element with the energy 0", []string{"0"}, "0"},
		{"one negative energy", []string{"-2/3"}, "-2/3"},
		{"two elements", []string{"2/3", "1/3"}, "1"},
		{"two elements with the sum 0", []string{"2/3", "-2/3"}, "0"},
		{"three elements", []string{"1/2", "1/3", "1/7"}, "41/42"},
		{"more elements than nodes", slices.Repeat([]string{"1/100"}, 1000), "10"},
		{"the greatest energy", []string{nines}, nines},
		{"the greatest denominator", []string{"1/" + nines}, "1/" + nines},
		{"a great sum", []string{eights, "1"}, nines},
		{"a great sum", []string{"1", "0", eights}, nines},
		{"a sum that is too large", []string{nines, "1"}, ""},
		{"a sum that is too large", []string{"1", nines}, ""},
		{"a negative sum that is too large", []string{"-" + nines, "-1"}, ""},
		{"a sum that is too large on the way", []string{nines, "1", "-1"}, ""},
		{"the denominator of a sum", []string{"1/" + p, "1/" + q}, ""},
		{"a sum without a great denominator on the way", []string{"2/" + p, rest, "1/" + q}, "1000000000000000000000000000000000000000000000000000000000000000000000000000000000000000000000000000000000000000000004/" + q},
		{"a great denominator on the way", []string{"1/" + q, "2/" + p, rest}, ""},
	} {
		var x impl.Tree
		for i, text := range c.energies {
			// The other fields do not matter.
			x.Nodes = append(x.Nodes, impl.TreeNode{Node: -i, Up: i, Own: links("0-1 1 0 0"), Energy: fraction(text)})
		}
		var want impl.Rat
		if c.want != "" {
			want = treeEnergyExactly(x)
		}
		if got := impl.TreeEnergy(x); !sameRat(got, want) || len(c.want) < 9 && impl.FormatRat(got) != c.want {
			t.Errorf("%s: TreeEnergy = %v, want %s", c.name, got, c.want)
		}
		checkParts(t, c.name, x)
	}
	for i, r := range invalidRats() {
		for place := range 3 {
			x := impl.Tree{Nodes: []impl.TreeNode{{Energy: fraction("1")}, {Energy: fraction("2")}, {Energy: fraction("3")}}}
			x.Nodes[place].Energy = r
			for _, y := range []impl.Tree{x, {Nodes: x.Nodes[place : place+1]}} {
				if got := impl.TreeEnergy(y); !isZeroRat(got) {
					t.Errorf("TreeEnergy with the invalid fraction %d at %d = %v", i, place, got)
				}
			}
		}
	}
}

// P6, P18.
func TestPathOf(t *testing.T) {
	l := links("0-1 1 0 0", "1-2 1 1 1", "2-5 1 2 0", "1-7 1 0 3", "0-4 1 1 0", "4-9 1 2 2", "0-9 1 0 0")
	x, ok := impl.BuildTree(l, []int{5, 7, 9, 2, 1, 4})
	if !ok {
		t.Fatal("BuildTree fails")
	}
	for v, want := range map[int][]int{
		1: {1}, 2: {2, 1}, 5: {5, 2, 1}, 7: {7, 1}, 4: {4}, 9: {9, 4},
		0: nil, 3: nil, 6: nil, 8: nil, 10: nil, -1: nil, math.MaxInt: nil, math.MinInt: nil,
	} {
		if got := impl.PathOf(x, v); !slices.Equal(got, want) {
			t.Errorf("PathOf(%d) = %v, want %v", v, got, want)
		}
		if got := impl.PathOf(impl.Tree{}, v); len(got) > 0 {
			t.Errorf("PathOf(%d) of an empty tree = %v", v, got)
		}
		// A tree with another energy is not a tree.
		for i, n := range x.Nodes {
			n.Energy = fraction("1")
			if got := impl.PathOf(withElement(x, i, n), v); len(got) > 0 {
				t.Errorf("PathOf(%d) of what is not a tree = %v", v, got)
			}
		}
	}
}

// guardedTree is a tree at the front of longer arrays: that of its elements, those of links and of parents, and those of limbs.
type guardedTree struct {
	tree    impl.Tree
	nodes   []impl.TreeNode
	links   [][]impl.Link
	parents [][]impl.Parent
	rows    [][]int
}

func guardTree(x impl.Tree) guardedTree {
	var g guardedTree
	for _, n := range append(slices.Clone(x.Nodes), triangleTree().Nodes...) {
		own, wholeOwn, rowsOwn := guardedLinks(n.Own)
		messages, wholeMessages, rowsMessages := guardedLinks(n.Messages)
		cond, parents, rowsCond := guardedConditional(n.Cond)
		energy, rowsEnergy := guarded(n.Energy)
		g.nodes = append(g.nodes, impl.TreeNode{Node: n.Node, Up: n.Up, Own: own, Cond: cond, Messages: messages, Energy: energy})
		g.links = append(g.links, wholeOwn, wholeMessages)
		g.parents = append(g.parents, parents)
		g.rows = slices.Concat(g.rows, rowsOwn, rowsMessages, rowsCond, rowsEnergy)
	}
	g.tree = impl.Tree{Nodes: g.nodes[:len(x.Nodes)]}
	return g
}

// isLike reports whether two trees that have been guarded in the same way have the same contents.
func (g guardedTree) isLike(other guardedTree) bool {
	return slices.EqualFunc(g.nodes, other.nodes, equalTreeNode) && slices.EqualFunc(g.links, other.links, equalLinks) &&
		slices.EqualFunc(g.parents, other.parents, equalParents) && sameRows(g.rows, other.rows)
}

// treeResult is what a function of the chapter returns, without its bool.
type treeResult struct {
	tree   impl.Tree
	order  []int
	links  []impl.Link
	net    []impl.Conditional
	at     []impl.Point
	energy impl.Rat
}

// rowsOf returns all limbs of the result.
func (a treeResult) rowsOf() [][]int {
	rows := slices.Concat(rowsOfLinks(a.links), [][]int{a.order, a.energy.Num.Mag, a.energy.Den})
	net := slices.Clone(a.net)
	for _, n := range a.tree.Nodes {
		rows = slices.Concat(rows, rowsOfLinks(n.Own), rowsOfLinks(n.Messages), [][]int{n.Energy.Num.Mag, n.Energy.Den})
		net = append(net, n.Cond)
	}
	for i := range net {
		for _, r := range conditionalRats(&net[i]) {
			rows = append(rows, r.Num.Mag, r.Den)
		}
	}
	for _, p := range a.at {
		rows = append(rows, p.X.Num.Mag, p.X.Den, p.Y.Num.Mag, p.Y.Den)
	}
	return rows
}

// spoil writes over all memory of the result, and reports whether its slices are apart: each list gets a number of its own.
func (a treeResult) spoil() bool {
	apart := spoilRows(a.rowsOf())
	lists, parents := [][]impl.Link{a.links}, [][]impl.Parent{}
	for _, n := range a.tree.Nodes {
		lists, parents = append(lists, n.Own, n.Messages), append(parents, n.Cond.Parents)
	}
	for _, c := range a.net {
		parents = append(parents, c.Parents)
	}
	for i, l := range lists {
		for j := range l[:cap(l)] {
			l[:cap(l)][j] = impl.Link{A: i, B: j}
		}
	}
	for i, l := range parents {
		for j := range l[:cap(l)] {
			l[:cap(l)][j] = impl.Parent{Node: i}
		}
	}
	for i, l := range lists {
		apart = apart && !slices.ContainsFunc(l[:cap(l)], func(k impl.Link) bool { return k.A != i })
	}
	for i, l := range parents {
		apart = apart && !slices.ContainsFunc(l[:cap(l)], func(p impl.Parent) bool { return p.Node != i })
	}
	clear(a.tree.Nodes[:cap(a.tree.Nodes)])
	clear(a.net[:cap(a.net)])
	clear(a.at[:cap(a.at)])
	return apart
}

// treeCall is a call of a function, of which only the memory of its results matters.
type treeCall struct {
	name string
	run  func(x impl.Tree, l []impl.Link, order []int) treeResult
}

func treeCalls() []treeCall {
	return []treeCall{
		{"BuildTree", func(_ impl.Tree, l []impl.Link, order []int) treeResult {
			x, _ := impl.BuildTree(l, order)
			return treeResult{tree: x}
		}},
		{"OrderOf", func(x impl.Tree, _ []impl.Link, _ []int) treeResult { return treeResult{order: impl.OrderOf(x)} }},
		{"TreeLinks", func(x impl.Tree, _ []impl.Link, _ []int) treeResult { return treeResult{links: impl.TreeLinks(x)} }},
		{"TreeNet", func(x impl.Tree, _ []impl.Link, _ []int) treeResult { return treeResult{net: impl.TreeNet(x)} }},
		{"SolveTree", func(x impl.Tree, _ []impl.Link, _ []int) treeResult {
			at, _ := impl.SolveTree(x)
			return treeResult{at: at}
		}},
		{"TreeEnergy", func(x impl.Tree, _ []impl.Link, _ []int) treeResult { return treeResult{energy: impl.TreeEnergy(x)} }},
		{"PathOf", func(x impl.Tree, _ []impl.Link, order []int) treeResult {
			return treeResult{order: impl.PathOf(x, append(slices.Clone(order), 1)[0])}
		}},
		{"the rest", func(x impl.Tree, _ []impl.Link, _ []int) treeResult {
			impl.IsTree(x)
			impl.SameTree(x, impl.Tree{Nodes: x.Nodes[:len(x.Nodes)/2]})
			impl.SameTree(x, x)
			return treeResult{}
		}},
	}
}

// checkTreeMemory runs all calls with guarded arguments, and writes over their results.
func checkTreeMemory(t *testing.T, x impl.Tree, l []impl.Link, order []int) {
	t.Helper()
	for _, call := range treeCalls() {
		g := guardTree(x)
		list, wholeList, rowsList := guardedLinks(l)
		order, wholeOrder := inFrontOf(order, 3, 2, 1)
		rows := append(slices.Clone(rowsList), wholeOrder)
		before, listBefore := cloneRows(rows), slices.Clone(wholeList)
		if !call.run(g.tree, list, order).spoil() {
			t.Fatalf("%s(%v, %v, %v): slices of the result share memory", call.name, x, l, order)
		}
		if !g.isLike(guardTree(x)) || !sameRows(rows, before) || !equalLinks(wholeList, listBefore) {
			t.Fatalf("%s(%v, %v, %v): the arguments are changed", call.name, x, l, order)
		}
	}
}

// Chapter 1: arguments and the capacity behind them stay as they are, and results share no memory with them or with each
// other.
func TestTreeMemory(t *testing.T) {
	r := rand.New(rand.NewSource(84))
	for n := range 9 {
		l := shuffled(r, groundedLinks(r, 2+n, n))
		set, _, _ := joinedExactly(l)
		order := shuffled(r, linkedNodes(set))
		x, _ := builtExactly(l, order)
		checkTreeMemory(t, x, l, order)
		checkTreeMemory(t, x, l, order[1:])
	}
	for _, x := range append(severalTrees(), impl.Tree{}) {
		checkTreeMemory(t, x, linksOfTree(x), nodesOfTree(x))
		checkTreeMemory(t, x, pairSet("1-2"), []int{1, 2})
	}
	strange := strangeTrees()
	for i, name := range slices.Sorted(maps.Keys(strange)) {
		if x := strange[name]; i%5 == 0 {
			checkTreeMemory(t, x, linksOfTree(x), nodesOfTree(x))
		}
	}
}

// Chapter 1: no state is kept between calls, even if the results of earlier calls are written over.
func TestTreeStateIsNotKept(t *testing.T) {
	r := rand.New(rand.NewSource(85))
	l := shuffled(r, groundedLinks(r, 10, 6))
	order := []int{9, 1, 8, 2, 7, 3, 6, 4, 5}
	x, _ := builtExactly(l, order)
	for range 3 {
		if !checkBuild(t, l, order) || !checkIsTree(t, "again", x) || !checkBuild(t, nil, nil) {
			t.Errorf("a function fails for %v", l)
		}
		checkNoTree(t, "again", withElement(x, 3, impl.TreeNode{}))
		for _, call := range treeCalls() {
			if !call.run(x, l, order).spoil() || !call.run(impl.Tree{}, nil, nil).spoil() {
				t.Errorf("%s: slices of the result share memory", call.name)
			}
		}
	}
}
