package tests

import (
	"math"
	"math/rand"
	"slices"
	"strings"
	"testing"

	"loop.example/g00810/impl"
)

// neighborsAfter returns the neighbors of v when the nodes of gone have been eliminated: those of the others to which there is a
// way through nodes of gone alone. No pair is linked for that.
func neighborsAfter(linked nodePairs, gone []int, v int) []int {
	reached := map[int]bool{v: true}
	open := []int{v}
	for len(open) > 0 {
		for _, w := range linked.of(open[0]) {
			if !reached[w] && slices.Contains(gone, w) {
				open = append(open, w)
			}
			reached[w] = true
		}
		open = open[1:]
	}
	var neighbors []int
	for w := range 10 {
		if w != v && reached[w] && !slices.Contains(gone, w) {
			neighbors = append(neighbors, w)
		}
	}
	return neighbors
}

// wantedFill returns what FillCount has to return for an order. At the end, every linked pair, old or new, has been met once, at
// the end that is eliminated first.
func wantedFill(set []impl.Link, order []int) int {
	linked := linkedBy(set)
	pairs := 0
	for i, v := range order {
		pairs += len(neighborsAfter(linked, order[:i], v))
	}
	return pairs - len(set)
}

// wantedTree returns what EliminationTree has to return for an order.
func wantedTree(set []impl.Link, order []int) []int {
	linked := linkedBy(set)
	var up []int
	for i, v := range order {
		neighbors := neighborsAfter(linked, order[:i], v)
		above := slices.IndexFunc(order[i:], func(w int) bool { return slices.Contains(neighbors, w) })
		if above < 0 {
			up = append(up, 0)
		} else {
			up = append(up, order[i+above])
		}
	}
	return up
}

// wantedOrder returns what MinDegreeOrder has to return for a link set.
func wantedOrder(set []impl.Link, last []int) []int {
	linked := linkedBy(set)
	isLate := func(v int) bool { return slices.Contains(last, v) }
	early := slices.DeleteFunc(linkedNodes(set), isLate)
	late := slices.DeleteFunc(linkedNodes(set), func(v int) bool { return !isLate(v) })
	var order []int
	for _, rest := range [][]int{early, late} {
		for len(rest) > 0 {
			best, fewest := 0, 10
			for _, v := range rest {
				if n := len(neighborsAfter(linked, order, v)); n < fewest {
					best, fewest = v, n
				}
			}
			order = append(order, best)
			rest = slices.DeleteFunc(rest, func(v int) bool { return v == best })
		}
	}
	return order
}

// isEachOnce reports whether l has each of the nodes once and nothing else.
func isEachOnce(nodes, l []int) bool {
	counts := map[int]int{}
	for _, v := range l {
		counts[v]++
	}
	for _, v := range nodes {
		if counts[v] != 1 {
			return false
		}
	}
	return len(counts) == len(nodes)
}

// checkOrder compares the functions that take an order with what they have to return.
func checkOrder(t *testing.T, set []impl.Link, order []int) {
	t.Helper()
	if !impl.IsOrder(set, order) {
		t.Errorf("IsOrder(%s, %v) = false", pairsIn(set), order)
	}
	if got, want := impl.FillCount(set, order), wantedFill(set, order); got != want {
		t.Errorf("FillCount(%s, %v) = %d, want %d", pairsIn(set), order, got, want)
	}
	if got, want := impl.EliminationTree(set, order), wantedTree(set, order); !slices.Equal(got, want) {
		t.Errorf("EliminationTree(%s, %v) = %v, want %v", pairsIn(set), order, got, want)
	}
}

func checkNoOrder(t *testing.T, name string, set []impl.Link, order []int) {
	t.Helper()
	if impl.IsOrder(set, order) {
		t.Errorf("%s: IsOrder(%s, %v) = true", name, pairsIn(set), order)
	}
	if got := impl.FillCount(set, order); got != -1 {
		t.Errorf("%s: FillCount(%s, %v) = %d", name, pairsIn(set), order, got)
	}
	if got := impl.EliminationTree(set, order); len(got) > 0 {
		t.Errorf("%s: EliminationTree(%s, %v) = %v", name, pairsIn(set), order, got)
	}
}

func checkMinDegree(t *testing.T, set []impl.Link, last []int) {
	t.Helper()
	if got, want := impl.MinDegreeOrder(set, last), wantedOrder(set, last); !slices.Equal(got, want) {
		t.Errorf("MinDegreeOrder(%s, %v) = %v, want %v", pairsIn(set), last, got, want)
	}
}

// P6, P18.
func TestIsOrder(t *testing.T) {
	for _, c := range []struct {
		name  string
		set   []impl.Link
		order []int
		want  bool
	}{
		{"nothing", nil, nil, true},
		{"nothing that is not nil", []impl.Link{}, []int{}, true},
		{"a node without links", nil, []int{1}, false},
		{"node 0 without links", nil, []int{0}, false},
		{"one node", pairSet("0-1"), []int{1}, true},
		{"the last node", pairSet("0-9"), []int{9}, true},
		{"no order of one node", pairSet("0-1"), nil, false},
		{"another node", pairSet("0-1"), []int{2}, false},
		{"one node twice", pairSet("0-1"), []int{1, 1}, false},
		{"one node and 0", pairSet("0-1"), []int{1, 0}, false},
		{"only 0", pairSet("0-1"), []int{0}, false},
		{"in order", pairSet("0-1", "0-2", "1-2"), []int{1, 2}, true},
		{"in the other order", pairSet("0-1", "0-2", "1-2"), []int{2, 1}, true},
		{"the first node is missing", pairSet("0-1", "0-2", "1-2"), []int{2}, false},
		{"the last node is missing", pairSet("0-1", "0-2", "1-2"), []int{1}, false},
		{"one for the other", pairSet("0-1", "0-2", "1-2"), []int{1, 1}, false},
		{"0 for a node", pairSet("0-1", "0-2", "1-2"), []int{0, 1}, false},
		{"0 before the nodes", pairSet("0-1", "0-2", "1-2"), []int{0, 1, 2}, false},
		{"0 behind the nodes", pairSet("0-1", "0-2", "1-2"), []int{1, 2, 0}, false},
		{"a node too much", pairSet("0-1", "0-2", "1-2"), []int{1, 2, 3}, false},
		{"a node twice", pairSet("0-1", "0-2", "1-2"), []int{1, 2, 1}, false},
		{"10", pairSet("0-1", "0-2", "1-2"), []int{1, 10, 2}, false},
		{"a negative number", pairSet("0-1", "0-2", "1-2"), []int{-1, 1, 2}, false},
		{"a negative number for a node", pairSet("0-1", "0-2", "1-2"), []int{-1, 2}, false},
		{"the least int", pairSet("0-1", "0-2", "1-2"), []int{1, math.MinInt}, false},
		{"the greatest int", pairSet("0-1", "0-2", "1-2"), []int{math.MaxInt, 2}, false},
		{"without 0", pairSet("3-7"), []int{7, 3}, true},
		{"without 0, and 0", pairSet("3-7"), []int{7, 3, 0}, false},
		{"two components", pairSet("0-9", "1-8", "2-3"), []int{8, 2, 9, 1, 3}, true},
		{"only one of two components", pairSet("0-9", "1-8", "2-3"), []int{9}, false},
		{"all nodes", allLinks(), []int{9, 1, 8, 2, 7, 3, 6, 4, 5}, true},
		{"all nodes but one", allLinks(), []int{9, 1, 8, 2, 7, 3, 6, 4}, false},
		{"all nodes but one, and one twice", allLinks(), []int{9, 1, 8, 2, 7, 3, 6, 4, 4}, false},
		{"all nodes and 0", allLinks(), []int{9, 1, 8, 2, 7, 3, 6, 4, 5, 0}, false},
		{"all nodes twice", allLinks(), []int{1, 2, 3, 4, 5, 6, 7, 8, 9, 1, 2, 3, 4, 5, 6, 7, 8, 9}, false},
	} {
		if got := impl.IsOrder(c.set, c.order); got != c.want {
			t.Errorf("%s: IsOrder(%s, %v) = %v", c.name, pairsIn(c.set), c.order, got)
		}
		if !c.want {
			checkNoOrder(t, c.name, c.set, c.order)
		}
	}
}

// everyList calls check for every list with at most so many of these elements.
func everyList(length int, elements []int, check func(l []int)) {
	check(nil)
	lists := [][]int{nil}
	for range length {
		var longer [][]int
		for _, l := range lists {
			for _, x := range elements {
				longer = append(longer, append(slices.Clone(l), x))
			}
		}
		for _, l := range longer {
			check(l)
		}
		lists = longer
	}
}

// P6, P18.
func TestIsOrderOfEveryShortList(t *testing.T) {
	for _, set := range [][]impl.Link{nil, pairSet("0-3"), pairSet("1-2"), pairSet("0-1", "0-2"), pairSet("0-1", "1-2", "2-3"), pairSet("1-2", "1-3")} {
		nodes := linkedNodes(set)
		everyList(4, []int{-1, 0, 1, 2, 3, 10}, func(l []int) {
			if isEachOnce(nodes, l) {
				checkOrder(t, set, l)
			} else {
				checkNoOrder(t, "every short list", set, l)
			}
		})
	}
}

// P6, P18.
func TestFillCount(t *testing.T) {
	star := pairSet("0-1", "1-2", "1-3")
	for _, c := range []struct {
		name  string
		set   []impl.Link
		order []int
		want  int
	}{
		{"nothing", nil, nil, 0},
		{"one link", pairSet("0-1"), []int{1}, 0},
		{"one link without 0", pairSet("1-2"), []int{2, 1}, 0},
		{"a triangle", pairSet("0-1", "0-2", "1-2"), []int{2, 1}, 0},
		{"a triangle without 0", pairSet("1-2", "1-3", "2-3"), []int{2, 1, 3}, 0},
		{"a chain from its end", pairSet("0-1", "1-2", "2-3"), []int{3, 2, 1}, 0},
		{"a chain from 0", pairSet("0-1", "1-2", "2-3"), []int{1, 2, 3}, 2},
		{"a chain from its middle", pairSet("0-1", "1-2", "2-3"), []int{2, 1, 3}, 2},
		{"a chain without 0 from its middle", pairSet("1-2", "2-3"), []int{2, 1, 3}, 1},
		{"a star of 0", pairSet("0-1", "0-2", "0-3"), []int{2, 1, 3}, 0},
		{"a star with 0, its center first", star, []int{1, 2, 3}, 3},
		{"a star with 0, its center second", star, []int{3, 1, 2}, 1},
		{"a star with 0, its center last", star, []int{3, 2, 1}, 0},
		{"a star without 0", pairSet("1-2", "1-3", "1-4"), []int{1, 2, 3, 4}, 3},
		{"a cycle of four", pairSet("0-1", "0-3", "1-2", "2-3"), []int{1, 2, 3}, 1},
		{"a cycle of four without 0", pairSet("1-2", "1-4", "2-3", "3-4"), []int{3, 4, 1, 2}, 1},
		{"a cycle of five", pairSet("0-1", "0-4", "1-2", "2-3", "3-4"), []int{2, 4, 1, 3}, 2},
		{"a cycle of all nodes", pairSet("0-1", "0-9", "1-2", "2-3", "3-4", "4-5", "5-6", "6-7", "7-8", "8-9"), []int{5, 1, 9, 3, 7, 2, 8, 4, 6}, 7},
		{"a pair that becomes linked twice", pairSet("0-1", "0-2", "1-3", "2-3"), []int{1, 2, 3}, 1},
		{"two components", pairSet("0-1", "1-2", "3-4", "3-5"), []int{3, 1, 4, 2, 5}, 2},
		{"all links", allLinks(), []int{9, 1, 8, 2, 7, 3, 6, 4, 5}, 0},
		{"a star of all nodes", starOfNine(4), []int{4, 1, 2, 3, 5, 6, 7, 8, 9}, 36},
		{"a star of all nodes, its center last", starOfNine(4), []int{1, 2, 3, 5, 6, 7, 8, 9, 4}, 0},
	} {
		if got := impl.FillCount(c.set, c.order); got != c.want {
			t.Errorf("%s: FillCount(%s, %v) = %d, want %d", c.name, pairsIn(c.set), c.order, got, c.want)
		}
		checkOrder(t, c.set, c.order)
	}
}

// P6, P18.
func TestEliminationTree(t *testing.T) {
	for _, c := range []struct {
		name        string
		set         []impl.Link
		order, want []int
		height      int
	}{
		{"nothing", nil, nil, nil, 0},
		{"a node whose only neighbor is 0", pairSet("0-1"), []int{1}, []int{0}, 1},
		{"nodes whose only neighbor is 0", pairSet("0-1", "0-5", "0-9"), []int{5, 9, 1}, []int{0, 0, 0}, 1},
		{"one link without 0", pairSet("1-2"), []int{1, 2}, []int{2, 0}, 2},
		{"one link without 0, the other way", pairSet("1-2"), []int{2, 1}, []int{1, 0}, 2},
		{"a triangle", pairSet("0-1", "0-2", "1-2"), []int{1, 2}, []int{2, 0}, 2},
		{"a chain from its end", pairSet("0-1", "1-2", "2-3"), []int{3, 2, 1}, []int{2, 1, 0}, 3},
		{"a chain from 0", pairSet("0-1", "1-2", "2-3"), []int{1, 2, 3}, []int{2, 3, 0}, 3},
		{"a chain from its middle", pairSet("0-1", "1-2", "2-3"), []int{2, 1, 3}, []int{1, 3, 0}, 3},
		{"a chain, its middle last", pairSet("0-1", "1-2", "2-3"), []int{3, 1, 2}, []int{2, 2, 0}, 2},
		{"a star, its center first", pairSet("0-1", "1-2", "1-3"), []int{1, 3, 2}, []int{3, 2, 0}, 3},
		{"a star, its center last", pairSet("0-1", "1-2", "1-3"), []int{3, 2, 1}, []int{1, 1, 0}, 2},
		{"the first one in the order, not the smallest one", pairSet("0-1", "1-2", "1-5", "1-7"), []int{1, 7, 2, 5}, []int{7, 2, 5, 0}, 4},
		{"no neighbors among the later nodes", pairSet("0-2", "1-2", "3-4"), []int{1, 2, 4, 3}, []int{2, 0, 3, 0}, 2},
		{"several components", pairSet("0-9", "1-8", "2-3", "2-4"), []int{8, 2, 9, 4, 1, 3}, []int{1, 4, 0, 3, 0, 0}, 3},
		{"two branches", pairSet("0-1", "1-2", "1-3", "2-4", "3-5"), []int{4, 5, 3, 2, 1}, []int{2, 3, 1, 1, 0}, 3},
		{"a new pair with 0 only", pairSet("0-1", "1-2", "2-3", "3-4"), []int{1, 3, 2, 4}, []int{2, 2, 4, 0}, 3},
		{"all links", allLinks(), []int{9, 1, 8, 2, 7, 3, 6, 4, 5}, []int{1, 8, 2, 7, 3, 6, 4, 5, 0}, 9},
		{"a star of 0", starOfNine(0), []int{9, 1, 8, 2, 7, 3, 6, 4, 5}, []int{0, 0, 0, 0, 0, 0, 0, 0, 0}, 1},
	} {
		got := impl.EliminationTree(c.set, c.order)
		if !slices.Equal(got, c.want) {
			t.Errorf("%s: EliminationTree(%s, %v) = %v, want %v", c.name, pairsIn(c.set), c.order, got, c.want)
		}
		if height := impl.TreeHeight(c.order, got); height != c.height {
			t.Errorf("%s: TreeHeight(%v, %v) = %d, want %d", c.name, c.order, got, height, c.height)
		}
		checkOrder(t, c.set, c.order)
	}
}

// P6, P18.
func TestOrdersOfEverySmallSet(t *testing.T) {
	for _, set := range everySmallSet() {
		for _, order := range permutations(linkedNodes(set)) {
			checkOrder(t, set, order)
		}
	}
}

// P6, P18.
func TestOrdersOfRandomSets(t *testing.T) {
	r := rand.New(rand.NewSource(51))
	for n := range 200 {
		set := randomSet(r, 1+n/3)
		order := shuffled(r, linkedNodes(set))
		checkOrder(t, set, order)
		if len(order) == 0 {
			continue
		}
		i := r.Intn(len(order))
		checkNoOrder(t, "a node is missing", set, slices.Delete(slices.Clone(order), i, i+1))
		checkNoOrder(t, "0 in the order", set, slices.Insert(slices.Clone(order), i, 0))
		checkNoOrder(t, "a node twice", set, append(slices.Clone(order), order[i]))
		if len(order) > 1 {
			twice := slices.Clone(order)
			twice[i] = order[(i+1)%len(order)]
			checkNoOrder(t, "one node for another", set, twice)
		}
		order[i] = []int{-1, 0, 10, -order[i]}[n%4]
		checkNoOrder(t, "another number for a node", set, order)
	}
}

// P18.
func TestMinDegreeOrder(t *testing.T) {
	star := pairSet("0-1", "1-2", "1-3")
	triangle := pairSet("0-1", "0-2", "1-2")
	for _, c := range []struct {
		name       string
		set        []impl.Link
		last, want []int
	}{
		{"nothing", nil, nil, nil},
		{"nothing that is not nil", []impl.Link{}, []int{}, nil},
		{"nothing and nodes in last", nil, []int{1, 2}, nil},
		{"one node", pairSet("0-7"), nil, []int{7}},
		{"one node in last", pairSet("0-7"), []int{7}, []int{7}},
		{"a tie of two", triangle, nil, []int{1, 2}},
		{"a tie of two, the smaller one in last", triangle, []int{1}, []int{2, 1}},
		{"a tie of two, the greater one in last", triangle, []int{2}, []int{1, 2}},
		{"a tie of two in last", triangle, []int{2, 1}, []int{1, 2}},
		{"a star", star, nil, []int{2, 3, 1}},
		{"a star, last that is empty", star, []int{}, []int{2, 3, 1}},
		{"a star, one node in last", star, []int{2}, []int{3, 1, 2}},
		{"a star, the center in last", star, []int{1}, []int{2, 3, 1}},
		{"a star, two nodes in last", star, []int{3, 2}, []int{1, 2, 3}},
		{"a star, the center and another one in last", star, []int{2, 1}, []int{3, 2, 1}},
		{"a star, all nodes in last", star, []int{3, 2, 1}, []int{2, 3, 1}},
		{"a star, a node twice in last", star, []int{2, 2}, []int{3, 1, 2}},
		{"a star, a node twice and another one in last", star, []int{2, 3, 2}, []int{1, 2, 3}},
		{"a star, 0 in last", star, []int{0}, []int{2, 3, 1}},
		{"a star, numbers that are no nodes in last", star, []int{-1, 10, math.MaxInt, math.MinInt}, []int{2, 3, 1}},
		{"a star, nodes of other sets in last", star, []int{4, 9}, []int{2, 3, 1}},
		{"a star, nodes of this and of other sets in last", star, []int{4, 2, -2, 0, 12}, []int{3, 1, 2}},
		{"a star, all nodes and others in last", star, []int{0, 1, 2, 3, 4, 5}, []int{2, 3, 1}},
		{"0 counts among the neighbors", pairSet("0-1", "1-3", "2-3"), nil, []int{2, 3, 1}},
		{"0 counts among the new neighbors", pairSet("0-1", "1-5", "5-6", "5-7", "6-8", "7-8"), []int{6, 7}, []int{1, 8, 5, 6, 7}},
		{"a chain", pairSet("0-1", "1-2", "2-3"), nil, []int{3, 2, 1}},
		{"a chain, its end in last", pairSet("0-1", "1-2", "2-3"), []int{3}, []int{1, 2, 3}},
		{"a node loses neighbors", pairSet("0-6", "1-9", "2-9", "3-9", "6-9"), nil, []int{1, 2, 3, 9, 6}},
		{"a node loses its only neighbor", pairSet("0-1", "0-2", "1-2", "3-4"), nil, []int{3, 4, 1, 2}},
		{"a node gets neighbors", pairSet("0-2", "1-2", "1-3", "1-4", "3-5", "3-6", "4-5", "4-6", "5-6"), []int{3, 4, 5, 6}, []int{2, 1, 5, 6, 3, 4}},
		{"a cycle", pairSet("0-8", "0-9", "1-2", "1-8", "2-9"), nil, []int{1, 2, 8, 9}},
		{"all links", allLinks(), nil, []int{1, 2, 3, 4, 5, 6, 7, 8, 9}},
		{"all links, some in last", allLinks(), []int{6, 1, 2}, []int{3, 4, 5, 7, 8, 9, 1, 2, 6}},
		{"a star of all nodes", starOfNine(4), nil, []int{1, 2, 3, 5, 6, 7, 8, 9, 4}},
	} {
		got := impl.MinDegreeOrder(c.set, c.last)
		if !slices.Equal(got, c.want) {
			t.Errorf("%s: MinDegreeOrder(%s, %v) = %v, want %v", c.name, pairsIn(c.set), c.last, got, c.want)
		}
		checkMinDegree(t, c.set, c.last)
	}
}

// sublists returns all choices of elements of l, in the order of l.
func sublists(l []int) [][]int {
	lists := [][]int{nil}
	for _, x := range l {
		for _, chosen := range lists {
			lists = append(lists, append(slices.Clone(chosen), x))
		}
	}
	return lists
}

// P6, P18. The last nodes are all choices of nodes, and all choices with numbers that are no nodes of the set.
func TestMinDegreeOrderOfEverySmallSet(t *testing.T) {
	for _, set := range everySmallSet() {
		nodes := linkedNodes(set)
		for _, last := range sublists(nodes) {
			checkMinDegree(t, set, last)
			slices.Reverse(last)
			last = append(append([]int{0, 2, 10}, last...), last...)
			checkMinDegree(t, set, last)
			if got := impl.MinDegreeOrder(set, last); !isEachOnce(nodes, got) || !impl.IsOrder(set, got) {
				t.Errorf("MinDegreeOrder(%s, %v) = %v, which is no order", pairsIn(set), last, got)
			}
		}
	}
}

// P6, P18.
func TestMinDegreeOrderOfRandomSets(t *testing.T) {
	r := rand.New(rand.NewSource(52))
	for n := range 300 {
		set := randomSet(r, 1+n/4)
		var last []int
		for range n % 8 {
			last = append(last, r.Intn(13)-1)
		}
		checkMinDegree(t, set, last)
		order := impl.MinDegreeOrder(set, last)
		if !impl.IsOrder(set, order) || impl.FillCount(set, order) < 0 {
			t.Errorf("MinDegreeOrder(%s, %v) = %v, which is no order", pairsIn(set), last, order)
		}
		// All of the last nodes are behind all others.
		isLate := func(v int) bool { return slices.Contains(last, v) }
		if i := slices.IndexFunc(order, isLate); i >= 0 && slices.ContainsFunc(order[i:], func(v int) bool { return !isLate(v) }) {
			t.Errorf("MinDegreeOrder(%s, %v) = %v", pairsIn(set), last, order)
		}
	}
}

// chainHeight returns what TreeHeight has to return if the lists have the same length of at most 10: it follows every chain.
func chainHeight(order, up []int) int {
	height := 0
	for start := range order {
		length := 1
		for i := start; up[i] != 0; length++ {
			next := i + 1
			for next < len(order) && order[next] != up[i] {
				next++
			}
			if next == len(order) {
				return 0
			}
			i = next
		}
		height = max(height, length)
	}
	return height
}

// P18.
func TestTreeHeight(t *testing.T) {
	ten, above := []int{1, 2, 3, 4, 5, 6, 7, 8, 9, 10}, []int{2, 3, 4, 5, 6, 7, 8, 9, 10, 0}
	for _, c := range []struct {
		name      string
		order, up []int
		want      int
	}{
		{"no nodes", nil, nil, 0},
		{"no nodes that are not nil", []int{}, []int{}, 0},
		{"one node", []int{5}, []int{0}, 1},
		{"two nodes", []int{1, 2}, []int{2, 0}, 2},
		{"two nodes apart", []int{1, 2}, []int{0, 0}, 1},
		{"two chains with one end", []int{4, 2, 3, 1}, []int{2, 1, 1, 0}, 3},
		{"the longest chain starts first", []int{4, 3, 2, 1, 5}, []int{3, 2, 1, 0, 0}, 4},
		{"the longest chain starts in the middle", []int{9, 4, 2, 3, 1}, []int{0, 2, 3, 1, 0}, 4},
		{"the longest chain ends last", []int{9, 8, 4, 3, 2}, []int{8, 0, 3, 2, 0}, 3},
		{"a step over other nodes", []int{1, 2, 3, 4}, []int{4, 0, 0, 0}, 2},
		{"a node less than up", []int{1, 2}, []int{2}, 0},
		{"a node more than up", []int{1, 2}, []int{2, 0, 0}, 0},
		{"no nodes for up", nil, []int{0}, 0},
		{"no up for a node", []int{1}, nil, 0},
		{"MaxNodes nodes apart", ten, make([]int, 10), 1},
		{"MaxNodes nodes", ten, above, 10},
		{"one node more than MaxNodes", append(slices.Clone(ten), 11), make([]int, 11), 0},
		{"one node more than MaxNodes, in a chain", append([]int{11}, ten...), append([]int{1}, above...), 0},
		{"one node more than MaxNodes, one of them twice", append([]int{1}, ten...), make([]int, 11), 0},
		{"many nodes", make([]int, 1000), make([]int, 1000), 0},
		{"up to a number that is not in order", []int{1, 2}, []int{3, 0}, 0},
		{"up to a negative number", []int{1, 2}, []int{-1, 0}, 0},
		{"up to the least int", []int{1, 2}, []int{2, math.MinInt}, 0},
		{"up to the greatest int", []int{1, 2}, []int{math.MaxInt, 0}, 0},
		{"up to the node itself", []int{1, 2}, []int{1, 0}, 0},
		{"the last node is up to itself", []int{1, 2}, []int{2, 2}, 0},
		{"the only node is up to itself", []int{1}, []int{1}, 0},
		{"up to an earlier node", []int{1, 2}, []int{0, 1}, 0},
		{"two nodes that are up to each other", []int{1, 2}, []int{2, 1}, 0},
		{"a wrong number behind a valid one", []int{1, 2, 3}, []int{2, 7, 0}, 0},
		{"a wrong number behind a 0", []int{1, 2, 3}, []int{0, 7, 0}, 0},
		{"a wrong number last", []int{1, 2, 3}, []int{2, 3, 7}, 0},
		{"an earlier node behind a valid one", []int{1, 2, 3}, []int{3, 1, 0}, 0},
		{"a wrong number before a longer chain", []int{1, 2, 3, 4}, []int{7, 3, 4, 0}, 0},
		{"twice in order, and the first one counts", []int{1, 2, 3, 2}, []int{2, 3, 0, 0}, 3},
		{"twice in order, and the second one does not count", []int{1, 2, 2, 3}, []int{2, 0, 3, 0}, 2},
		{"twice in order, and the other one is earlier", []int{2, 1, 2}, []int{0, 2, 0}, 2},
		{"twice in order, and both are earlier", []int{2, 2, 1}, []int{0, 0, 2}, 0},
		{"from a node to its second place", []int{2, 2}, []int{2, 0}, 2},
		{"from a node to its second place behind others", []int{2, 1, 2, 3}, []int{2, 0, 3, 0}, 3},
		{"to and fro", []int{1, 2, 1, 2}, []int{2, 1, 2, 0}, 4},
		{"three times in order", []int{7, 7, 7}, []int{7, 7, 0}, 3},
		{"numbers that are no nodes", []int{-3, 10, math.MinInt, math.MaxInt}, []int{10, math.MinInt, math.MaxInt, 0}, 4},
		{"0 in order", []int{1, 0}, []int{0, 0}, 1},
		{"0 in order before others", []int{0, 1}, []int{1, 0}, 2},
		{"only 0 in order", []int{0}, []int{0}, 1},
	} {
		if got := impl.TreeHeight(c.order, c.up); got != c.want {
			t.Errorf("%s: TreeHeight(%v, %v) = %d, want %d", c.name, c.order, c.up, got, c.want)
		}
	}
}

// P6, P18.
func TestTreeHeightOfAllShortLists(t *testing.T) {
	everyList(4, []int{1, 2, 3}, func(order []int) {
		everyList(4, []int{0, 1, 2, 3}, func(up []int) {
			want := 0
			if len(order) == len(up) {
				want = chainHeight(order, up)
			}
			if got := impl.TreeHeight(order, up); got != want {
				t.Errorf("TreeHeight(%v, %v) = %d, want %d", order, up, got, want)
			}
		})
	})
}

// P6, P18.
func TestTreeHeightOfRandomLists(t *testing.T) {
	r := rand.New(rand.NewSource(53))
	counts := map[int]int{}
	for n := range 3000 {
		order := r.Perm(n % 11)
		for i := range order {
			order[i] -= n % 3
		}
		up := make([]int, len(order))
		for i := range up {
			if i+1 < len(up) && r.Intn(5) > 0 {
				up[i] = order[i+1+r.Intn(min(2, len(order)-i-1))]
			}
		}
		if n%7 == 0 && len(up) > 0 {
			up[r.Intn(len(up))] = order[r.Intn(len(order))]
		}
		want := chainHeight(order, up)
		counts[want]++
		if got := impl.TreeHeight(order, up); got != want {
			t.Errorf("TreeHeight(%v, %v) = %d, want %d", order, up, got, want)
		}
	}
	if counts[0] < 100 || counts[3] < 100 || counts[6] < 100 {
		t.Errorf("the heights: %v", counts)
	}
}

// P18.
func TestBestFill(t *testing.T) {
	for _, c := range []struct {
		name string
		set  []impl.Link
		want int
	}{
		{"nothing", nil, 0},
		{"nothing that is not nil", []impl.Link{}, 0},
		{"one link", pairSet("0-1"), 0},
		{"one link without 0", pairSet("8-9"), 0},
		{"a triangle", pairSet("0-1", "0-2", "1-2"), 0},
		{"a chain", pairSet("0-9", "1-8", "1-9", "2-8"), 0},
		{"a star", pairSet("0-1", "1-2", "1-3"), 0},
		{"a cycle of four", pairSet("0-1", "0-3", "1-2", "2-3"), 1},
		{"a cycle of four without 0", pairSet("1-2", "1-4", "2-3", "3-4"), 1},
		{"a cycle of five", pairSet("0-1", "0-4", "1-2", "2-3", "3-4"), 2},
		{"a cycle of five without 0", pairSet("1-2", "1-9", "2-3", "3-4", "4-9"), 2},
		{"a cycle of six", pairSet("0-1", "0-9", "1-2", "2-3", "3-4", "4-9"), 3},
		{"two cycles with one node in common", pairSet("0-1", "0-2", "1-3", "2-3", "3-4", "3-5", "4-5"), 1},
		{"two cycles apart", pairSet("0-1", "0-2", "1-2", "3-4", "3-5", "4-5"), 0},
		{"three and three", pairSet("0-3", "0-4", "0-5", "1-3", "1-4", "1-5", "2-3", "2-4", "2-5"), 3},
		{"two and four", pairSet("0-2", "0-3", "0-4", "0-5", "1-2", "1-3", "1-4", "1-5"), 1},
		{"all links of five nodes and 0", linksUpTo(5), 0},
		{"five nodes", pairSet("0-5", "0-6", "0-7", "0-8", "0-9"), 0},
		{"six nodes", pairSet("0-4", "0-5", "0-6", "0-7", "0-8", "0-9"), -1},
		{"five nodes without 0", pairSet("5-6", "6-7", "7-8", "8-9"), 0},
		{"six nodes without 0", pairSet("4-5", "5-6", "6-7", "7-8", "8-9"), -1},
		{"five nodes in two components", pairSet("1-2", "3-4", "3-5"), 0},
		{"six nodes in three components", pairSet("1-2", "3-4", "5-6"), -1},
		{"all links of six nodes and 0", linksUpTo(6), -1},
		{"a chain of six nodes", pairSet("0-1", "1-2", "2-3", "3-4", "4-5", "5-6"), -1},
		{"all links", allLinks(), -1},
	} {
		if got := impl.BestFill(c.set); got != c.want {
			t.Errorf("%s: BestFill(%s) = %d, want %d", c.name, pairsIn(c.set), got, c.want)
		}
	}
}

// linksUpTo returns all links between the nodes from 0 to the last one.
func linksUpTo(last int) []impl.Link {
	return slices.DeleteFunc(allLinks(), func(k impl.Link) bool { return k.B > last })
}

// checkBestFill compares BestFill with the FillCount of every order, and returns it.
func checkBestFill(t *testing.T, set []impl.Link) int {
	t.Helper()
	best := math.MaxInt
	for _, order := range permutations(linkedNodes(set)) {
		fill := impl.FillCount(set, order)
		if fill != wantedFill(set, order) {
			t.Errorf("FillCount(%s, %v) = %d", pairsIn(set), order, fill)
		}
		best = min(best, fill)
	}
	if got := impl.BestFill(set); got != best {
		t.Errorf("BestFill(%s) = %d, want %d", pairsIn(set), got, best)
	}
	return best
}

// P6, P18.
func TestBestFillOfEverySmallSet(t *testing.T) {
	for _, set := range everySmallSet() {
		best := checkBestFill(t, set)
		for _, last := range sublists(linkedNodes(set)) {
			if fill := impl.FillCount(set, impl.MinDegreeOrder(set, last)); fill < best {
				t.Errorf("MinDegreeOrder(%s, %v) has the fill %d, less than %d", pairsIn(set), last, fill, best)
			}
		}
	}
}

// P6, P18.
func TestBestFillOfRandomSets(t *testing.T) {
	r := rand.New(rand.NewSource(54))
	counts := map[int]int{}
	for n := range 120 {
		nodes := r.Perm(9)[:5]
		set := slices.DeleteFunc(randomSet(r, 30+n/2), func(k impl.Link) bool {
			isOutside := func(v int) bool { return v > 0 && !slices.Contains(nodes, v-1) }
			return isOutside(k.A) || isOutside(k.B)
		})
		counts[checkBestFill(t, set)]++
	}
	if counts[0] < 20 || counts[1] < 10 || counts[2] < 2 {
		t.Errorf("the fills: %v", counts)
	}
	for n := range 100 {
		set := randomSet(r, 5+n)
		if got := impl.BestFill(set); (got < 0) != (len(linkedNodes(set)) > 5) {
			t.Errorf("BestFill(%s) = %d", pairsIn(set), got)
		}
	}
}

// checkStructure eliminates the nodes with chapter 9, and compares with the functions of this chapter: the parents of a node are
// its neighbors, of which all but 0 are on the chain from it, and the links that come in are the new pairs.
func checkStructure(t *testing.T, set []impl.Link, order []int) {
	t.Helper()
	up := impl.EliminationTree(set, order)
	if want := wantedTree(set, order); !slices.Equal(up, want) {
		t.Fatalf("EliminationTree(%s, %v) = %v, want %v", pairsIn(set), order, up, want)
	}
	rest, fill, deepest := set, 0, 0
	for i, v := range order {
		c, left, _, ok := impl.ReduceNode(rest, v)
		if !ok {
			t.Fatalf("ReduceNode(%s, %d) fails", pairsIn(rest), v)
		}
		fill += len(left) + len(c.Parents) - len(rest)
		rest = left
		var chain []int
		for w := up[i]; w != 0; w = up[slices.Index(order, w)] {
			chain = append(chain, w)
		}
		deepest = max(deepest, 1+len(chain))
		first := len(order)
		for _, p := range c.Parents {
			if p.Node == 0 {
				continue
			}
			first = min(first, slices.Index(order, p.Node))
			if !slices.Contains(chain, p.Node) {
				t.Errorf("the parent %d of %d is not on its chain %v in %s", p.Node, v, chain, pairsIn(set))
			}
		}
		if first == len(order) && up[i] != 0 || first < len(order) && up[i] != order[first] {
			t.Errorf("EliminationTree(%s, %v) = %v, but %d has the parents %v", pairsIn(set), order, up, v, c.Parents)
		}
	}
	if got := impl.FillCount(set, order); got != fill {
		t.Errorf("FillCount(%s, %v) = %d, but %d links come in", pairsIn(set), order, got, fill)
	}
	if got := impl.TreeHeight(order, up); got != deepest {
		t.Errorf("TreeHeight(%v, %v) = %d, want %d", order, up, got, deepest)
	}
}

// P6.
func TestEliminationHasTheStructureOfItsOrder(t *testing.T) {
	r := rand.New(rand.NewSource(55))
	for n := range 60 {
		set := groundedSet(r, 2+n%9, n/2)
		nodes := linkedNodes(set)
		checkStructure(t, set, shuffled(r, nodes))
		checkStructure(t, set, impl.MinDegreeOrder(set, nil))
		checkStructure(t, set, impl.MinDegreeOrder(set, nodes[:len(nodes)/2]))
	}
}

// P6. There is a node above for every node of a component but the last one.
func TestEliminationTreeOfEveryComponent(t *testing.T) {
	r := rand.New(rand.NewSource(56))
	for n := range 100 {
		set := randomSet(r, 2+n/5)
		order := shuffled(r, linkedNodes(set))
		up := impl.EliminationTree(set, order)
		// Without node 0, what it connects falls apart.
		connected := linkedBy(slices.DeleteFunc(slices.Clone(set), func(k impl.Link) bool { return k.A == 0 })).connected()
		for i, v := range order {
			isLast := !slices.ContainsFunc(order[i+1:], func(w int) bool { return connected[v][w] })
			if isLast != (up[i] == 0) || up[i] != 0 && !connected[v][up[i]] {
				t.Errorf("EliminationTree(%s, %v) = %v", pairsIn(set), order, up)
			}
		}
	}
}

// P18. The fractions of a link do not matter to an order.
func TestOrdersOfGreatFractions(t *testing.T) {
	nines := strings.Repeat("9", 216)
	set := links("0-1 "+nines+" 0 -"+nines, "0-3 1/"+nines+" 0 0", "1-2 1/"+nines+" "+nines+" 1/"+nines, "2-3 "+nines+"/2 0 0")
	if _, _, ok := impl.EliminateNode(set, 1); ok {
		t.Error("the links are not too large to be eliminated")
	}
	for _, order := range permutations([]int{1, 2, 3}) {
		checkOrder(t, set, order)
	}
	checkMinDegree(t, set, []int{1})
	if got := checkBestFill(t, set); got != 1 {
		t.Errorf("BestFill of a cycle = %d", got)
	}
}

// P18.
func TestOrderFunctionsRejectListsThatAreNoLinkSets(t *testing.T) {
	for name, l := range noLinkSets() {
		for _, order := range [][]int{nil, {1}, {1, 2}, {2, 1}, {1, 2, 3}, {3}, {0}, {1, 7, 8, 9}, {1, 2, 3, 4, 5, 6, 7, 8, 9}} {
			checkNoOrder(t, name, l, order)
			if got := impl.MinDegreeOrder(l, order); len(got) > 0 {
				t.Errorf("%s: MinDegreeOrder(%s, %v) = %v", name, pairsIn(l), order, got)
			}
		}
		if got := impl.BestFill(l); got != -1 {
			t.Errorf("%s: BestFill(%s) = %d", name, pairsIn(l), got)
		}
	}
}

// orderCall is a call of a function, of which only the memory of its result matters.
type orderCall struct {
	name string
	run  func(set []impl.Link, order, up []int) []int
}

func orderCalls() []orderCall {
	return []orderCall{
		{"IsOrder", func(set []impl.Link, order, _ []int) []int {
			impl.IsOrder(set, order)
			return nil
		}},
		{"FillCount", func(set []impl.Link, order, _ []int) []int {
			impl.FillCount(set, order)
			return nil
		}},
		{"MinDegreeOrder", func(set []impl.Link, order, _ []int) []int { return impl.MinDegreeOrder(set, order) }},
		{"EliminationTree", func(set []impl.Link, order, _ []int) []int { return impl.EliminationTree(set, order) }},
		{"TreeHeight", func(_ []impl.Link, order, up []int) []int {
			impl.TreeHeight(order, up)
			return nil
		}},
		{"BestFill", func(set []impl.Link, _, _ []int) []int {
			impl.BestFill(set)
			return nil
		}},
	}
}

// Chapter 1: arguments and the capacity behind them stay as they are, and results share no memory with them. The spare capacity
// holds what would be nodes.
func TestOrderMemory(t *testing.T) {
	sets := [][]impl.Link{
		nil, pairSet("0-1"), pairSet("8-9"), pairSet("0-1", "1-2"), pairSet("0-1", "0-2", "1-2", "2-3"), pairSet("0-1", "0-3", "1-2", "2-3"), allLinks(),
		pairSet("1-2", "0-1"), links("0-1 1 0 0", "1-2 0 0 0"),
	}
	orders := [][]int{
		nil, {1}, {2, 1}, {1, 2}, {9, 8}, {3, 1, 2}, {2, 1, 3}, {9, 1, 8, 2, 7, 3, 6, 4, 5}, {3, 3, 1}, {-1, 0, 10}, {1, 2, 3, 4, 5, 6, 7, 8, 9, 10, 11},
	}
	ups := [][]int{nil, {0}, {1, 0}, {1, 2, 0}, {2, 0, 0}, {7, 0, 0}, {1, 8, 2, 7, 3, 6, 4, 5, 0}}
	for _, call := range orderCalls() {
		for _, set := range sets {
			for _, order := range orders {
				for _, up := range ups {
					list, whole, rows := guardedLinks(set)
					order, wholeOrder := inFrontOf(order, 3, 2, 1)
					up, wholeUp := inFrontOf(up, 2, 1, 0)
					rows = append(rows, wholeOrder, wholeUp)
					before, linksBefore := cloneRows(rows), slices.Clone(whole)
					spoil(call.run(list, order, up))
					if !sameRows(rows, before) || !equalLinks(whole, linksBefore) {
						t.Fatalf("%s(%s, %v, %v): the arguments are changed", call.name, pairsIn(set), order, up)
					}
				}
			}
		}
	}
}

// P18. One list may be two arguments.
func TestTreeHeightOfOneListTwice(t *testing.T) {
	for _, c := range []struct {
		l    []int
		want int
	}{{[]int{0}, 1}, {[]int{0, 0}, 1}, {[]int{1}, 0}, {[]int{1, 2}, 0}, {[]int{1, 1, 0}, 0}, {nil, 0}} {
		if got := impl.TreeHeight(c.l, c.l); got != c.want {
			t.Errorf("TreeHeight(%v) with itself = %d, want %d", c.l, got, c.want)
		}
	}
}

// Chapter 1: no state is kept between calls, even if the results of earlier calls are written over.
func TestOrderStateIsNotKept(t *testing.T) {
	set := pairSet("0-1", "0-3", "1-2", "2-3", "2-4")
	for range 3 {
		for _, order := range permutations([]int{1, 2, 3, 4}) {
			checkOrder(t, set, order)
			checkMinDegree(t, set, order[:2])
			for _, call := range orderCalls() {
				spoil(call.run(set, order, order))
			}
		}
		checkNoOrder(t, "a node is missing", set, []int{1, 2, 3})
		checkBestFill(t, set)
	}
}
