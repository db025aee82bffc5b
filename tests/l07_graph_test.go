package tests

import (
	"fmt"
	"math"
	"math/rand"
	"slices"
	"strings"
	"testing"

	"loop.example/g00810/impl"
)

// pairSet returns a link for each pair, such as 0-1, in the given order. The links differ in all fields.
func pairSet(pairs ...string) []impl.Link {
	var l []impl.Link
	for i, pair := range pairs {
		l = append(l, link(fmt.Sprintf("%s %d/2 %d -%d/3", pair, 2*i+1, i-5, 3*i+1)))
	}
	return l
}

// pairsIn shows the ends of links in the form of pairSet.
func pairsIn(l []impl.Link) string {
	var pairs []string
	for _, k := range l {
		pairs = append(pairs, fmt.Sprintf("%d-%d", k.A, k.B))
	}
	return strings.Join(pairs, " ")
}

// graphNodes returns all nodes and ints that are no nodes.
func graphNodes() []int {
	return []int{math.MinInt, -10, -1, 0, 1, 2, 3, 4, 5, 6, 7, 8, 9, 10, 11, math.MaxInt}
}

// nodePairs has a truth value for every two nodes. The graph functions are compared with such tables, which follow no links.
type nodePairs [10][10]bool

func linkedBy(l []impl.Link) nodePairs {
	var p nodePairs
	for _, k := range l {
		p[k.A][k.B], p[k.B][k.A] = true, true
	}
	return p
}

func (p nodePairs) without(a, b int) nodePairs {
	p[a][b], p[b][a] = false, false
	return p
}

// connected is the table of the nodes between which there is a way.
func (p nodePairs) connected() nodePairs {
	for i := range p {
		p[i][i] = true
	}
	for k := range p {
		for i := range p {
			for j := range p {
				p[i][j] = p[i][j] || p[i][k] && p[k][j]
			}
		}
	}
	return p
}

// of returns the nodes that v has in the table, or none if v is not a node.
func (p nodePairs) of(v int) []int {
	var nodes []int
	if v < 0 || v > 9 {
		return nil
	}
	for i, has := range p[v] {
		if has {
			nodes = append(nodes, i)
		}
	}
	return nodes
}

// checkWholeGraph compares the functions that take nothing but a link set with the tables.
func checkWholeGraph(t *testing.T, set []impl.Link) {
	t.Helper()
	linked := linkedBy(set)
	connected := linked.connected()
	var nodes []int
	grounded := true
	for v := range 10 {
		isEnd := len(linked.of(v)) > 0
		if isEnd && v > 0 {
			nodes = append(nodes, v)
		}
		grounded = grounded && (!isEnd || connected[0][v])
	}
	var bridges []impl.Link
	for _, k := range set {
		if !linked.without(k.A, k.B).connected()[k.A][k.B] {
			bridges = append(bridges, k)
		}
	}
	if got := impl.NodesOf(set); !slices.Equal(got, nodes) {
		t.Errorf("NodesOf(%s) = %v, want %v", pairsIn(set), got, nodes)
	}
	if got := impl.IsGrounded(set); got != grounded {
		t.Errorf("IsGrounded(%s) = %v", pairsIn(set), got)
	}
	if got := impl.Bridges(set); !equalLinks(got, bridges) {
		t.Errorf("Bridges(%s) = %s, want %s", pairsIn(set), pairsIn(got), pairsIn(bridges))
	}
}

// checkGraphAt compares the functions of one node with the tables.
func checkGraphAt(t *testing.T, set []impl.Link, v int) {
	t.Helper()
	linked := linkedBy(set)
	if got, want := impl.NeighborsOf(set, v), linked.of(v); !slices.Equal(got, want) {
		t.Errorf("NeighborsOf(%s, %d) = %v, want %v", pairsIn(set), v, got, want)
	}
	component := linked.connected().of(v)
	if component == nil {
		component = []int{v}
	}
	if got := impl.ComponentOf(set, v); !slices.Equal(got, component) {
		t.Errorf("ComponentOf(%s, %d) = %v, want %v", pairsIn(set), v, got, component)
	}
	var rest []impl.Link
	for _, k := range set {
		if k.A != v && k.B != v {
			rest = append(rest, k)
		}
	}
	if got := impl.WithoutNode(set, v); !equalLinks(got, rest) {
		t.Errorf("WithoutNode(%s, %d) = %s, want %s", pairsIn(set), v, pairsIn(got), pairsIn(rest))
	}
}

func checkLinkOf(t *testing.T, set []impl.Link, a, b int) {
	t.Helper()
	var want impl.Link
	ok := false
	for _, k := range set {
		if k.A == a && k.B == b || k.A == b && k.B == a {
			want, ok = k, true
		}
	}
	if got, gotOk := impl.LinkOf(set, a, b); gotOk != ok || !equalLink(got, want) {
		t.Errorf("LinkOf(%s, %d, %d) = %v, %v, want %v, %v", pairsIn(set), a, b, got, gotOk, want, ok)
	}
}

func checkGraph(t *testing.T, set []impl.Link, nodes []int) {
	t.Helper()
	checkWholeGraph(t, set)
	for _, a := range nodes {
		checkGraphAt(t, set, a)
		for _, b := range nodes {
			checkLinkOf(t, set, a, b)
		}
	}
}

// P18.
func TestNodesOf(t *testing.T) {
	cases := []struct {
		set  []impl.Link
		want []int
	}{
		{nil, nil},
		{[]impl.Link{}, nil},
		{pairSet("0-1"), []int{1}},
		{pairSet("0-9"), []int{9}},
		{pairSet("3-7"), []int{3, 7}},
		{pairSet("0-1", "0-2", "1-2"), []int{1, 2}},
		{pairSet("0-9", "1-8", "2-3"), []int{1, 2, 3, 8, 9}},
		{allLinks(), []int{1, 2, 3, 4, 5, 6, 7, 8, 9}},
	}
	for _, c := range cases {
		if got := impl.NodesOf(c.set); !slices.Equal(got, c.want) {
			t.Errorf("NodesOf(%s) = %v, want %v", pairsIn(c.set), got, c.want)
		}
	}
}

// P18.
func TestNeighborsOf(t *testing.T) {
	star := pairSet("0-5", "2-5", "4-5", "5-6", "5-9")
	cases := []struct {
		set  []impl.Link
		v    int
		want []int
	}{
		{nil, 0, nil},
		{nil, 3, nil},
		{[]impl.Link{}, 9, nil},
		{pairSet("0-9"), 0, []int{9}},
		{pairSet("0-9"), 9, []int{0}},
		{pairSet("0-9"), 5, nil},
		{pairSet("0-9"), 10, nil},
		{pairSet("0-9"), -1, nil},
		{pairSet("0-9"), math.MaxInt, nil},
		{pairSet("0-9"), math.MinInt, nil},
		{star, 5, []int{0, 2, 4, 6, 9}},
		{star, 0, []int{5}},
		{star, 9, []int{5}},
		{star, 3, nil},
		{allLinks(), 0, []int{1, 2, 3, 4, 5, 6, 7, 8, 9}},
		{allLinks(), 4, []int{0, 1, 2, 3, 5, 6, 7, 8, 9}},
		{allLinks(), 9, []int{0, 1, 2, 3, 4, 5, 6, 7, 8}},
		{allLinks(), 10, nil},
	}
	for _, c := range cases {
		if got := impl.NeighborsOf(c.set, c.v); !slices.Equal(got, c.want) {
			t.Errorf("NeighborsOf(%s, %d) = %v, want %v", pairsIn(c.set), c.v, got, c.want)
		}
	}
}

// P18. In either order of the ends, the link is the one of the set, with its own A, B, DX and DY.
func TestLinkOf(t *testing.T) {
	set := links("0-2 1 7 0", "1-3 2/9 1/2 -5", "8-9 9999 -1000000 1000000")
	for _, c := range []struct {
		a, b int
		want string
	}{
		{0, 2, "0-2 1 7 0"}, {2, 0, "0-2 1 7 0"}, {1, 3, "1-3 2/9 1/2 -5"}, {3, 1, "1-3 2/9 1/2 -5"},
		{8, 9, "8-9 9999 -1000000 1000000"}, {9, 8, "8-9 9999 -1000000 1000000"},
	} {
		if got, ok := impl.LinkOf(set, c.a, c.b); !ok || !equalLink(got, link(c.want)) {
			t.Errorf("LinkOf(%d, %d) = %v, %v, want %s", c.a, c.b, got, ok, c.want)
		}
	}
	for _, c := range [][2]int{
		{0, 1}, {1, 2}, {2, 3}, {0, 3}, {7, 8}, {0, 9}, {0, 0}, {2, 2}, {9, 9}, {5, 5}, {0, 10}, {9, 10}, {10, 10}, {-1, 0}, {-1, -1}, {-2, 2},
		{math.MinInt, 0}, {math.MinInt, math.MaxInt}, {math.MaxInt, 9}, {math.MaxInt, math.MaxInt}, {math.MinInt, math.MinInt},
	} {
		for _, ends := range [][2]int{c, {c[1], c[0]}} {
			for _, l := range [][]impl.Link{set, nil, {}} {
				if got, ok := impl.LinkOf(l, ends[0], ends[1]); ok || !isZeroLink(got) {
					t.Errorf("LinkOf(%s, %d, %d) = %v, %v", pairsIn(l), ends[0], ends[1], got, ok)
				}
			}
		}
	}
}

// P18. A v that no link has as an end is alone, also if it is not a node.
func TestComponentOf(t *testing.T) {
	two := pairSet("0-9", "1-2", "2-5", "4-9", "5-8")
	cases := []struct {
		set  []impl.Link
		v    int
		want []int
	}{
		{pairSet("0-1"), 0, []int{0, 1}},
		{pairSet("0-1"), 1, []int{0, 1}},
		{pairSet("8-9"), 9, []int{8, 9}},
		{two, 0, []int{0, 4, 9}},
		{two, 9, []int{0, 4, 9}},
		{two, 4, []int{0, 4, 9}},
		{two, 1, []int{1, 2, 5, 8}},
		{two, 8, []int{1, 2, 5, 8}},
		{two, 5, []int{1, 2, 5, 8}},
		// The way goes up and down.
		{pairSet("0-9", "1-8", "1-9", "2-7", "2-8"), 7, []int{0, 1, 2, 7, 8, 9}},
		{pairSet("0-1", "0-2", "1-2"), 2, []int{0, 1, 2}},
		{allLinks(), 0, []int{0, 1, 2, 3, 4, 5, 6, 7, 8, 9}},
		{allLinks(), 9, []int{0, 1, 2, 3, 4, 5, 6, 7, 8, 9}},
	}
	for _, c := range cases {
		if got := impl.ComponentOf(c.set, c.v); !slices.Equal(got, c.want) {
			t.Errorf("ComponentOf(%s, %d) = %v, want %v", pairsIn(c.set), c.v, got, c.want)
		}
	}
	for _, set := range [][]impl.Link{nil, {}, two, pairSet("8-9")} {
		for _, v := range []int{3, 6, 7, 10, -1, math.MaxInt, math.MinInt} {
			if got := impl.ComponentOf(set, v); !slices.Equal(got, []int{v}) {
				t.Errorf("ComponentOf(%s, %d) = %v", pairsIn(set), v, got)
			}
		}
	}
	if got := impl.ComponentOf(pairSet("8-9"), 0); !slices.Equal(got, []int{0}) {
		t.Errorf("ComponentOf node 0 without links = %v", got)
	}
}

// P18. In a set without links, no end is outside.
func TestIsGrounded(t *testing.T) {
	cases := []struct {
		set  []impl.Link
		want bool
	}{
		{nil, true},
		{[]impl.Link{}, true},
		{pairSet("0-1"), true},
		{pairSet("0-9"), true},
		{pairSet("1-2"), false},
		{pairSet("8-9"), false},
		{pairSet("1-2", "1-3", "2-3"), false},
		{pairSet("0-1", "0-2", "1-2"), true},
		{pairSet("0-9", "8-9"), true},
		{pairSet("0-1", "2-3"), false},
		{pairSet("0-9", "1-2", "2-9"), true},
		{pairSet("0-1", "0-2", "1-2", "3-4", "3-5", "4-5"), false},
		{pairSet("0-1", "1-2", "2-3", "3-4", "4-5", "5-6", "6-7", "7-8", "8-9"), true},
		{pairSet("0-1", "1-2", "2-3", "3-4", "5-6", "6-7", "7-8", "8-9"), false},
		{allLinks(), true},
		{slices.DeleteFunc(allLinks(), func(k impl.Link) bool { return k.A == 0 }), false},
	}
	for _, c := range cases {
		if got := impl.IsGrounded(c.set); got != c.want {
			t.Errorf("IsGrounded(%s) = %v", pairsIn(c.set), got)
		}
	}
}

// P18.
func TestWithoutNode(t *testing.T) {
	set := links("0-2 1 7 0", "0-5 1/2 -1 3", "2-5 2/9 1/2 -5", "5-9 3 0 0", "8-9 9999 -1000000 1000000")
	cases := []struct {
		v    int
		want []impl.Link
	}{
		{0, links("2-5 2/9 1/2 -5", "5-9 3 0 0", "8-9 9999 -1000000 1000000")},
		{5, links("0-2 1 7 0", "8-9 9999 -1000000 1000000")},
		{9, links("0-2 1 7 0", "0-5 1/2 -1 3", "2-5 2/9 1/2 -5")},
		{2, links("0-5 1/2 -1 3", "5-9 3 0 0", "8-9 9999 -1000000 1000000")},
		{8, links("0-2 1 7 0", "0-5 1/2 -1 3", "2-5 2/9 1/2 -5", "5-9 3 0 0")},
		{1, set}, {7, set}, {10, set}, {-1, set}, {math.MaxInt, set}, {math.MinInt, set},
	}
	for _, c := range cases {
		if got := impl.WithoutNode(set, c.v); !equalLinks(got, c.want) {
			t.Errorf("WithoutNode(%d) = %v, want %v", c.v, got, c.want)
		}
	}
	for _, v := range graphNodes() {
		if got := impl.WithoutNode(nil, v); len(got) > 0 {
			t.Errorf("WithoutNode of no links and %d = %v", v, got)
		}
	}
	// All links have the node in the middle of a star.
	for _, c := range []struct {
		star []impl.Link
		v    int
	}{
		{pairSet("0-1", "0-2", "0-9"), 0}, {pairSet("0-4", "3-4", "4-5", "4-9"), 4}, {pairSet("0-9", "1-9", "8-9"), 9}, {pairSet("3-7"), 3}, {pairSet("3-7"), 7},
	} {
		if got := impl.WithoutNode(c.star, c.v); len(got) > 0 {
			t.Errorf("WithoutNode(%s, %d) = %v", pairsIn(c.star), c.v, got)
		}
	}
}

// P18.
func TestBridges(t *testing.T) {
	all := allLinks()
	cases := []struct {
		name string
		set  []impl.Link
		want string
	}{
		{"nil", nil, ""},
		{"no links", []impl.Link{}, ""},
		{"one link", pairSet("0-1"), "0-1"},
		{"one link without 0", pairSet("8-9"), "8-9"},
		{"a star", pairSet("0-4", "2-4", "4-5", "4-9"), "0-4 2-4 4-5 4-9"},
		{"a chain", pairSet("0-9", "1-8", "1-9", "2-8"), "0-9 1-8 1-9 2-8"},
		{"a tree", pairSet("0-1", "0-2", "1-3", "1-4", "2-5", "5-9"), "0-1 0-2 1-3 1-4 2-5 5-9"},
		{"a cycle of three", pairSet("0-1", "0-2", "1-2"), ""},
		{"a cycle of four", pairSet("1-2", "1-9", "2-5", "5-9"), ""},
		{"a cycle of all nodes", pairSet("0-1", "0-9", "1-2", "2-3", "3-4", "4-5", "5-6", "6-7", "7-8", "8-9"), ""},
		{"a cycle with a tail", pairSet("0-1", "0-2", "1-2", "2-3", "3-9"), "2-3 3-9"},
		{"two cycles that one link connects", pairSet("0-1", "0-2", "1-2", "2-7", "7-8", "7-9", "8-9"), "2-7"},
		{"two cycles that two links connect", pairSet("0-1", "0-2", "1-2", "1-8", "2-7", "7-8", "7-9", "8-9"), ""},
		{"two cycles with one node in common", pairSet("0-1", "0-2", "1-2", "2-7", "2-8", "7-8"), ""},
		{"two components", pairSet("0-1", "0-2", "1-2", "3-4"), "3-4"},
		{"two trees", pairSet("0-9", "1-2", "2-3", "8-9"), "0-9 1-2 2-3 8-9"},
		{"two cycles apart", pairSet("0-5", "0-7", "1-2", "1-3", "2-3", "5-7"), ""},
		{"three components", pairSet("0-1", "2-3", "2-4", "3-4", "4-5", "6-7", "7-8"), "0-1 4-5 6-7 7-8"},
		{"all links", all, ""},
		{"all links of nine nodes and one more", append([]impl.Link{all[0]}, all[9:]...), "0-1"},
	}
	for _, c := range cases {
		got := impl.Bridges(c.set)
		if pairsIn(got) != c.want {
			t.Errorf("%s: Bridges(%s) = %s, want %s", c.name, pairsIn(c.set), pairsIn(got), c.want)
		}
		for _, k := range got {
			if !slices.ContainsFunc(c.set, func(l impl.Link) bool { return equalLink(k, l) }) {
				t.Errorf("%s: the bridge %v is not a link of the set", c.name, k)
			}
		}
	}
}

// everySmallSet returns all link sets of five nodes, each of which may be linked with each other one.
func everySmallSet() [][]impl.Link {
	pairs := []string{"0-1", "0-4", "0-8", "0-9", "1-4", "1-8", "1-9", "4-8", "4-9", "8-9"}
	var sets [][]impl.Link
	for chosen := range 1 << len(pairs) {
		var set []impl.Link
		for i, k := range pairSet(pairs...) {
			if chosen>>i&1 == 1 {
				set = append(set, k)
			}
		}
		sets = append(sets, set)
	}
	return sets
}

// P18.
func TestGraphOfEverySmallSet(t *testing.T) {
	for _, set := range everySmallSet() {
		checkGraph(t, set, []int{-1, 0, 1, 4, 5, 8, 9, 10})
	}
}

// randomSet returns a link set in which each two nodes are linked with the given chance in a hundred.
func randomSet(r *rand.Rand, chance int) []impl.Link {
	return slices.DeleteFunc(allLinks(), func(impl.Link) bool { return r.Intn(100) >= chance })
}

// P18.
func TestGraphOfRandomSets(t *testing.T) {
	r := rand.New(rand.NewSource(21))
	for n := range 100 {
		checkGraph(t, randomSet(r, 1+n/2), graphNodes())
	}
}

// P18.
func TestGraphOfTheSmallestAndTheGreatestSets(t *testing.T) {
	for _, set := range [][]impl.Link{nil, {}, allLinks()} {
		checkGraph(t, set, graphNodes())
	}
	for i, k := range allLinks() {
		checkGraph(t, []impl.Link{k}, []int{math.MinInt, -1, 0, k.A, k.B, 9, 10, math.MaxInt})
		checkGraph(t, slices.Delete(allLinks(), i, i+1), []int{0, k.A, k.B, 9, 10})
	}
}

// P18. The fractions of a link do not matter to the graph, and are returned as they are.
func TestGraphOfGreatFractions(t *testing.T) {
	nines := strings.Repeat("9", 216)
	set := links("0-1 "+nines+" 0 -"+nines, "1-2 1/"+nines+" "+nines+" 1/"+nines, "1-3 1 0 0", "2-3 "+nines+"/2 0 0")
	checkGraph(t, set, graphNodes())
	if got := impl.Bridges(set); !equalLinks(got, set[:1]) {
		t.Errorf("Bridges = %v", got)
	}
}

func checkNoGraph(t *testing.T, name string, l []impl.Link) {
	t.Helper()
	if got := impl.NodesOf(l); len(got) > 0 {
		t.Errorf("%s: NodesOf = %v", name, got)
	}
	if impl.IsGrounded(l) {
		t.Errorf("%s: IsGrounded = true", name)
	}
	if got := impl.Bridges(l); len(got) > 0 {
		t.Errorf("%s: Bridges = %v", name, got)
	}
	for _, v := range []int{math.MinInt, -1, 0, 1, 2, 3, 9, 10, math.MaxInt} {
		if got := impl.NeighborsOf(l, v); len(got) > 0 {
			t.Errorf("%s: NeighborsOf %d = %v", name, v, got)
		}
		if got := impl.ComponentOf(l, v); len(got) > 0 {
			t.Errorf("%s: ComponentOf %d = %v", name, v, got)
		}
		if got := impl.WithoutNode(l, v); len(got) > 0 {
			t.Errorf("%s: WithoutNode %d = %v", name, v, got)
		}
		for _, k := range append(slices.Clone(l), link("0-1 1 0 0"), impl.Link{A: v, B: v}) {
			for _, ends := range [][2]int{{k.A, k.B}, {k.B, k.A}} {
				if got, ok := impl.LinkOf(l, ends[0], ends[1]); ok || !isZeroLink(got) {
					t.Errorf("%s: LinkOf %d and %d = %v, %v", name, ends[0], ends[1], got, ok)
				}
			}
		}
	}
}

// P18. Most of the lists would be grounded if they were link sets.
func TestGraphFunctionsRejectListsThatAreNoLinkSets(t *testing.T) {
	swapped, twice := allLinks(), allLinks()
	swapped[20], swapped[21] = swapped[21], swapped[20]
	for name, l := range map[string][]impl.Link{
		"the greater A first":         pairSet("1-2", "0-1"),
		"the greater B first":         pairSet("0-2", "0-1"),
		"two links exchanged":         swapped,
		"the last link first":         pairSet("8-9", "0-1", "0-8"),
		"one link twice":              links("0-1 1 0 0", "0-1 1 0 0"),
		"two links for one pair":      pairSet("0-1", "0-1"),
		"two links for the last pair": append(twice, twice[44]),
		"two links with one between":  pairSet("0-1", "0-2", "0-1"),
		"ends exchanged":              pairSet("0-1", "2-1"),
	} {
		checkNoGraph(t, name, l)
	}
	for i, k := range invalidLinks() {
		name := fmt.Sprintf("invalid link %d", i)
		checkNoGraph(t, name+" alone", []impl.Link{k})
		checkNoGraph(t, name+" first", append([]impl.Link{k}, pairSet("0-2", "1-2")...))
		checkNoGraph(t, name+" last", append(pairSet("0-1"), k))
	}
	// The place of the invalid link is the right one.
	for _, i := range []int{0, 1, 22, 43, 44} {
		for field := range 3 {
			for _, r := range []impl.Rat{{}, fractionOf(false, []int{2}, []int{4}), fractionOf(true, nil, []int{1})} {
				l := allLinks()
				*linkRats(&l[i])[field] = r
				checkNoGraph(t, fmt.Sprintf("link %d with the invalid field %d", i, field), l)
			}
		}
	}
}

// linksAt returns the links that have v as an end and the others, without the functions of the project.
func linksAt(l []impl.Link, v int) (at, rest []impl.Link) {
	for _, k := range l {
		if k.A == v || k.B == v {
			at = append(at, k)
		} else {
			rest = append(rest, k)
		}
	}
	return at, rest
}

// P3. In every order, the links are joined to the set with the same graph. Several links for one pair are one link of the
// graph, which can be a bridge.
func TestGraphOfLinksJoinedInEveryOrder(t *testing.T) {
	cases := []struct {
		l        []string
		nodes    []int
		grounded bool
		bridges  []string
	}{
		{nil, nil, true, nil},
		{[]string{"0-1 1 1 0", "0-1 1 -1 0"}, []int{1}, true, []string{"0-1 2 0 0"}},
		{[]string{"3-9 1 1 0", "3-9 1 -1 0", "3-9 2 6 3"}, []int{3, 9}, false, []string{"3-9 4 3 3/2"}},
		{[]string{"0-1 1 0 0", "1-2 1 4 0", "0-2 1 7 0", "0-2 1/2 4 0"}, []int{1, 2}, true, nil},
		{[]string{"0-1 1 0 0", "1-2 1/2 1 0", "2-9 1 1 1", "1-2 3/2 1 4"}, []int{1, 2, 9}, true, []string{"0-1 1 0 0", "1-2 2 1 3", "2-9 1 1 1"}},
		{[]string{"0-1 1 0 0", "4-6 1 1 1", "5-6 1 1 1", "4-5 1 1 0", "6-8 1 0 2", "6-8 1 0 0"}, []int{1, 4, 5, 6, 8}, false, []string{"0-1 1 0 0", "6-8 2 0 1"}},
	}
	for _, c := range cases {
		for _, l := range permutations(links(c.l...)) {
			set, _, ok := impl.JoinLinks(l)
			if !ok {
				t.Fatalf("JoinLinks(%v) fails", l)
			}
			if got := impl.NodesOf(set); !slices.Equal(got, c.nodes) {
				t.Errorf("NodesOf %s, joined, = %v, want %v", pairsIn(l), got, c.nodes)
			}
			if got := impl.IsGrounded(set); got != c.grounded {
				t.Errorf("IsGrounded of %s, joined, = %v", pairsIn(l), got)
			}
			if got := impl.Bridges(set); !equalLinks(got, links(c.bridges...)) {
				t.Errorf("Bridges of %s, joined, = %v, want %v", pairsIn(l), got, c.bridges)
			}
			linked := linkedBy(l)
			for v := range 10 {
				if got := impl.NeighborsOf(set, v); !slices.Equal(got, linked.of(v)) {
					t.Errorf("NeighborsOf %s, joined, and %d = %v", pairsIn(l), v, got)
				}
				if got := impl.ComponentOf(set, v); !slices.Equal(got, linked.connected().of(v)) {
					t.Errorf("ComponentOf %s, joined, and %d = %v", pairsIn(l), v, got)
				}
			}
		}
	}
}

// P3. The links of a list that has several for one pair are joined in two orders. Taking out a node before or after that is
// the same, and the link between two nodes has the energy of all links between them, up to a constant.
func TestGraphOfRandomJoinedLinks(t *testing.T) {
	r := rand.New(rand.NewSource(22))
	at := randomPoints(r)
	for n := range 40 {
		l := randomLinks(r, 2+n%9, 1+n)
		set, _, ok := impl.JoinLinks(l)
		again, _, okAgain := impl.JoinLinks(shuffled(r, l))
		if !ok || !okAgain || !equalLinks(impl.Bridges(set), impl.Bridges(again)) || !slices.Equal(impl.NodesOf(set), impl.NodesOf(again)) {
			t.Fatalf("the links %s in two orders have the graphs %s and %s", pairsIn(l), pairsIn(set), pairsIn(again))
		}
		for v := range 10 {
			linksOfNode, others := linksAt(l, v)
			rest, _, ok := impl.JoinLinks(others)
			if got := impl.WithoutNode(again, v); !ok || !equalLinks(got, rest) {
				t.Errorf("WithoutNode %d is %v after joining %v, and %v before", v, got, l, rest)
			}
			for _, w := range impl.NeighborsOf(again, v) {
				between, _ := linksAt(linksOfNode, w)
				_, constant, ok := impl.JoinLinks(between)
				k, found := impl.LinkOf(again, v, w)
				if !ok || !found {
					t.Fatalf("LinkOf %d and %d of %s, joined, = %v, %v", v, w, pairsIn(l), k, found)
				}
				before, after := totalAt(t, between, at), totalAt(t, []impl.Link{k}, at)
				if before.Cmp(after.Add(after, quotientOf(constant))) != 0 {
					t.Errorf("the links between %d and %d have the energy %v, and %v after joining %s", v, w, before, after, pairsIn(l))
				}
			}
		}
	}
}

// P18. The chapter's functions describe one graph.
func TestGraphFunctionsAgree(t *testing.T) {
	r := rand.New(rand.NewSource(23))
	for n := range 30 {
		set := randomSet(r, 2+n)
		for v := range 10 {
			parts := impl.WithoutNode(set, v)
			if slices.Contains(impl.NodesOf(parts), v) || len(impl.NeighborsOf(parts, v)) > 0 || !slices.Equal(impl.ComponentOf(parts, v), []int{v}) {
				t.Errorf("%d is still a node of %s", v, pairsIn(parts))
			}
			for _, w := range impl.NeighborsOf(set, v) {
				k, ok := impl.LinkOf(set, w, v)
				if !ok {
					t.Fatalf("there is no link from %d to its neighbor %d in %s", v, w, pairsIn(set))
				}
				if parts, _, ok = impl.AddLink(parts, k); !ok {
					t.Fatalf("AddLink of %v fails", k)
				}
			}
			if !equalLinks(parts, set) {
				t.Errorf("%s becomes %s after %d is taken out and put back", pairsIn(set), pairsIn(parts), v)
			}
		}
		for i, k := range set {
			rest := slices.Delete(slices.Clone(set), i, i+1)
			apart := !slices.Contains(impl.ComponentOf(rest, k.A), k.B)
			if slices.ContainsFunc(impl.Bridges(set), func(l impl.Link) bool { return equalLink(k, l) }) != apart {
				t.Errorf("whether %s is a bridge of %s is not %v", impl.FormatLink(k), pairsIn(set), apart)
			}
		}
	}
}

// graphCall is a call of a function, of which only the memory of its results matters.
type graphCall struct {
	name string
	run  func(set []impl.Link, v, w int) ([]impl.Link, []int)
}

func graphCalls() []graphCall {
	return []graphCall{
		{"NodesOf", func(set []impl.Link, _, _ int) ([]impl.Link, []int) { return nil, impl.NodesOf(set) }},
		{"NeighborsOf", func(set []impl.Link, v, _ int) ([]impl.Link, []int) { return nil, impl.NeighborsOf(set, v) }},
		{"LinkOf", func(set []impl.Link, v, w int) ([]impl.Link, []int) {
			k, _ := impl.LinkOf(set, v, w)
			return []impl.Link{k}, nil
		}},
		{"ComponentOf", func(set []impl.Link, v, _ int) ([]impl.Link, []int) { return nil, impl.ComponentOf(set, v) }},
		{"IsGrounded", func(set []impl.Link, _, _ int) ([]impl.Link, []int) {
			impl.IsGrounded(set)
			return nil, nil
		}},
		{"WithoutNode", func(set []impl.Link, v, _ int) ([]impl.Link, []int) { return impl.WithoutNode(set, v), nil }},
		{"Bridges", func(set []impl.Link, _, _ int) ([]impl.Link, []int) { return impl.Bridges(set), nil }},
	}
}

// Chapter 1: arguments and the capacity behind them stay as they are, and results share no memory with them or with each
// other.
func TestGraphMemory(t *testing.T) {
	sets := [][]impl.Link{
		nil, pairSet("0-1"), pairSet("8-9"), pairSet("0-1", "1-2", "2-9"), pairSet("0-1", "0-2", "1-2", "2-3"), allLinks(),
		pairSet("1-2", "0-1"), pairSet("0-1", "0-1"), links("0-1 1 0 0", "1-2 0 0 0"),
	}
	for _, call := range graphCalls() {
		for _, set := range sets {
			for _, v := range []int{-1, 0, 1, 2, 9, 10} {
				for _, w := range []int{0, 1, 2} {
					list, whole, rows := guardedLinks(set)
					before, linksBefore := cloneRows(rows), slices.Clone(whole)
					got, nodes := call.run(list, v, w)
					if !spoilRows(append(rowsOfLinks(got), nodes)) {
						t.Fatalf("%s(%s, %d, %d): slices of the result share memory", call.name, pairsIn(set), v, w)
					}
					clear(got[:cap(got)])
					if !sameRows(rows, before) || !equalLinks(whole, linksBefore) {
						t.Fatalf("%s(%s, %d, %d): the arguments are changed", call.name, pairsIn(set), v, w)
					}
				}
			}
		}
	}
}

// Chapter 1: no state is kept between calls, even if the results of earlier calls are written over.
func TestGraphStateIsNotKept(t *testing.T) {
	set := pairSet("0-1", "0-2", "1-2", "2-9")
	for range 3 {
		checkGraph(t, set, graphNodes())
		for _, call := range graphCalls() {
			for v := range 10 {
				got, nodes := call.run(set, v, 2)
				spoilRows(append(rowsOfLinks(got), nodes))
				clear(got)
			}
		}
	}
}
