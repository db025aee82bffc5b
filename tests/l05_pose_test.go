package tests

import (
	"fmt"
	"math"
	"regexp"
	"slices"
	"strconv"
	"strings"
	"testing"

	"loop.example/g00810/impl"
)

const maxCoord = impl.MaxCoord

func pose(turn int, x int, y int) impl.Pose { return impl.Pose{Turn: turn, X: x, Y: y} }

// isPose does not call IsValidPose, which is tested with it.
func isPose(p impl.Pose) bool {
	return slices.Contains([]int{0, 1, 2, 3}, p.Turn) && p.X >= -1000000 && p.X <= 1000000 && p.Y >= -1000000 && p.Y <= 1000000
}

// headingOf returns the direction of a Turn in the complex plane, where one quarter turn is a multiplication by i.
func headingOf(turn int) complex128 { return []complex128{1, 1i, -1, -1i}[turn] }

// composedInPlane returns what follows from the complex plane for p and q, and whether it is a pose.
func composedInPlane(p, q impl.Pose) (impl.Pose, bool) {
	if !isPose(p) || !isPose(q) {
		return impl.Pose{}, false
	}
	place := complex(float64(p.X), float64(p.Y)) + headingOf(p.Turn)*complex(float64(q.X), float64(q.Y))
	heading := headingOf(p.Turn) * headingOf(q.Turn)
	for turn := range 4 {
		r := pose(turn, int(real(place)), int(imag(place)))
		if headingOf(turn) == heading && isPose(r) {
			return r, true
		}
	}
	return impl.Pose{}, false
}

func composedAllInPlane(l []impl.Pose) impl.Pose {
	whole := impl.Pose{}
	for _, p := range l {
		next, ok := composedInPlane(whole, p)
		if !ok {
			return impl.Pose{}
		}
		whole = next
	}
	return whole
}

func posesOf(turns []int, coords []int) []impl.Pose {
	var l []impl.Pose
	for _, turn := range turns {
		for _, x := range coords {
			for _, y := range coords {
				l = append(l, pose(turn, x, y))
			}
		}
	}
	return l
}

// samplePoses returns poses of every Turn, at small coordinates and at the limits.
func samplePoses() []impl.Pose {
	return posesOf([]int{0, 1, 2, 3}, []int{0, 1, -2, 500000, -500001, maxCoord - 1, maxCoord, -maxCoord})
}

// smallPoses returns poses of which any four can be composed in any order.
func smallPoses() []impl.Pose { return posesOf([]int{0, 1, 2, 3}, []int{0, 1, -2, 250000}) }

// invalidPoses returns values that are no poses, because of one of their fields or of several.
func invalidPoses() []impl.Pose {
	all := posesOf([]int{-1, 0, 1, 2, 3, 4, 5, -4, 8, math.MaxInt, math.MinInt}, []int{0, 3, maxCoord, -maxCoord, maxCoord + 1, -maxCoord - 1, math.MaxInt, math.MinInt})
	return slices.DeleteFunc(all, isPose)
}

// P18.
func TestIsValidPose(t *testing.T) {
	if impl.MaxCoord != 1000000 {
		t.Errorf("MaxCoord = %d", impl.MaxCoord)
	}
	cases := map[impl.Pose]bool{
		{}:                         true,
		pose(3, 0, 0):              true,
		pose(4, 0, 0):              false,
		pose(-1, 0, 0):             false,
		pose(math.MaxInt, 0, 0):    false,
		pose(math.MinInt, 0, 0):    false,
		pose(1, 1000000, -1000000): true,
		pose(2, -1000000, 1000000): true,
		pose(0, 1000001, 0):        false,
		pose(0, -1000001, 0):       false,
		pose(0, 0, 1000001):        false,
		pose(0, 0, -1000001):       false,
		pose(0, math.MaxInt, 0):    false,
		pose(0, math.MinInt, 0):    false,
		pose(0, 0, math.MaxInt):    false,
		pose(0, 0, math.MinInt):    false,
	}
	for _, p := range samplePoses() {
		cases[p] = true
	}
	for _, p := range invalidPoses() {
		cases[p] = false
	}
	for p, want := range cases {
		if got := impl.IsValidPose(p); got != want {
			t.Errorf("IsValidPose(%v) = %v", p, got)
		}
	}
}

// P18.
func TestRotateXY(t *testing.T) {
	for _, p := range samplePoses() {
		want := [][2]int{{p.X, p.Y}, {-p.Y, p.X}, {-p.X, -p.Y}, {p.Y, -p.X}}[p.Turn]
		if x, y := impl.RotateXY(p.X, p.Y, p.Turn); x != want[0] || y != want[1] {
			t.Errorf("RotateXY(%d, %d, %d) = %d, %d, want %v", p.X, p.Y, p.Turn, x, y, want)
		}
	}
	for _, p := range invalidPoses() {
		if x, y := impl.RotateXY(p.X, p.Y, p.Turn); x != 0 || y != 0 {
			t.Errorf("RotateXY(%d, %d, %d) = %d, %d, want zeros", p.X, p.Y, p.Turn, x, y)
		}
	}
	for _, turn := range []int{-1, 4, 5, -3, math.MaxInt, math.MinInt} {
		if x, y := impl.RotateXY(3, -4, turn); x != 0 || y != 0 {
			t.Errorf("RotateXY(3, -4, %d) = %d, %d, want zeros", turn, x, y)
		}
	}
}

// P2, P18.
func TestRotateXYAddsTurns(t *testing.T) {
	for _, p := range samplePoses() {
		for turn := range 4 {
			x, y := impl.RotateXY(p.X, p.Y, p.Turn)
			x, y = impl.RotateXY(x, y, turn)
			wantX, wantY := impl.RotateXY(p.X, p.Y, (p.Turn+turn)%4)
			if x != wantX || y != wantY {
				t.Errorf("(%d, %d) turned by %d and %d is (%d, %d), want (%d, %d)", p.X, p.Y, p.Turn, turn, x, y, wantX, wantY)
			}
		}
	}
}

// P18.
func TestCompose(t *testing.T) {
	cases := []struct{ p, q, want impl.Pose }{
		{pose(0, 3, -4), pose(0, 2, 1), pose(0, 5, -3)},
		{pose(1, 3, -4), pose(0, 2, 1), pose(1, 2, -2)},
		{pose(2, 3, -4), pose(0, 2, 1), pose(2, 1, -5)},
		{pose(3, 3, -4), pose(0, 2, 1), pose(3, 4, -6)},
		{pose(1, 3, -4), pose(3, 2, 1), pose(0, 2, -2)},
		{pose(3, 0, 0), pose(3, 0, 0), pose(2, 0, 0)},
		{pose(2, 0, 0), pose(3, 0, 0), pose(1, 0, 0)},
	}
	for _, c := range cases {
		if got := impl.Compose(c.p, c.q); got != c.want {
			t.Errorf("Compose(%v, %v) = %v, want %v", c.p, c.q, got, c.want)
		}
	}
}

// P2, P18. Valid and invalid poses, in both arguments.
func TestComposeAndBetweenOfAllPairs(t *testing.T) {
	samples := append(samplePoses(), invalidPoses()...)
	valid, tooFar := 0, 0
	for _, p := range samples {
		inverse := impl.Inverse(p)
		for _, q := range samples {
			want, ok := composedInPlane(p, q)
			if got := impl.Compose(p, q); got != want {
				t.Fatalf("Compose(%v, %v) = %v, want %v", p, q, got, want)
			}
			relative, _ := composedInPlane(inverse, q)
			if got := impl.Between(p, q); got != relative {
				t.Fatalf("Between(%v, %v) = %v, want %v", p, q, got, relative)
			}
			if ok {
				valid++
			} else if isPose(p) && isPose(q) {
				tooFar++
			}
		}
	}
	if valid < 1000 || tooFar < 1000 {
		t.Errorf("%d results are valid and %d are too far away", valid, tooFar)
	}
}

// P18. The inverse of a value that is no pose is the zero pose, from which q is seen as it is.
func TestBetweenOfInvalidPoses(t *testing.T) {
	for _, p := range invalidPoses() {
		for _, q := range []impl.Pose{{}, pose(1, 3, -4), pose(3, -maxCoord, maxCoord)} {
			if got := impl.Between(p, q); got != q {
				t.Errorf("Between(%v, %v) = %v", p, q, got)
			}
			if got := impl.Between(q, p); got != (impl.Pose{}) {
				t.Errorf("Between(%v, %v) = %v", q, p, got)
			}
		}
		if got := impl.Between(p, p); got != (impl.Pose{}) {
			t.Errorf("Between(%v, %v) = %v", p, p, got)
		}
	}
}

// stepFrom returns the pose that, seen from the heading turn, lies at (x, y) from it on the map.
func stepFrom(turn int, x int, y int) impl.Pose {
	v := complex(float64(x), float64(y)) / headingOf(turn)
	return pose(2, int(real(v)), int(imag(v)))
}

// P18. In every heading and on all four sides, a result at exactly MaxCoord is valid, and one a step further is not.
func TestPoseResultsAtTheLimit(t *testing.T) {
	for turn := range 4 {
		for _, side := range [][2]int{{1, 0}, {-1, 0}, {0, 1}, {0, -1}} {
			x, y := side[0], side[1]
			edge := pose(turn, x*maxCoord, y*maxCoord)
			cases := []struct{ p, q, want impl.Pose }{
				{pose(turn, x*(maxCoord-5), y*(maxCoord-5)), stepFrom(turn, 5*x, 5*y), pose((turn+2)%4, edge.X, edge.Y)},
				{pose(turn, x*(maxCoord-5), y*(maxCoord-5)), stepFrom(turn, 6*x, 6*y), impl.Pose{}},
				{edge, stepFrom(turn, y, x), pose((turn+2)%4, edge.X+y, edge.Y+x)},
				{edge, stepFrom(turn, x, y), impl.Pose{}},
				{edge, stepFrom(turn, x*maxCoord, y*maxCoord), impl.Pose{}},
			}
			for _, c := range cases {
				if got := impl.Compose(c.p, c.q); got != c.want {
					t.Errorf("Compose(%v, %v) = %v, want %v", c.p, c.q, got, c.want)
				}
				if got := impl.Between(impl.Inverse(c.p), c.q); got != c.want {
					t.Errorf("Between(%v, %v) = %v, want %v", impl.Inverse(c.p), c.q, got, c.want)
				}
				if got := impl.ComposeAll([]impl.Pose{c.p, c.q}); got != c.want {
					t.Errorf("ComposeAll of %v and %v = %v, want %v", c.p, c.q, got, c.want)
				}
			}
		}
	}
}

// P18. The difference of two positions can be twice as far as a position.
func TestBetweenAtTheLimit(t *testing.T) {
	cases := []struct{ p, q, want impl.Pose }{
		{pose(0, -400000, 0), pose(0, 600000, 0), pose(0, maxCoord, 0)},
		{pose(0, -400000, 0), pose(0, 600001, 0), impl.Pose{}},
		{pose(1, 0, 400000), pose(3, 0, -600000), pose(2, -maxCoord, 0)},
		{pose(1, 0, 400000), pose(3, 0, -600001), impl.Pose{}},
		{pose(2, 1, maxCoord), pose(0, 1, 0), pose(2, 0, maxCoord)},
		{pose(2, 1, maxCoord), pose(0, 1, -1), impl.Pose{}},
		{pose(3, -maxCoord, 5), pose(2, 0, 5), pose(3, 0, maxCoord)},
		{pose(3, -maxCoord, 5), pose(2, 1, 5), impl.Pose{}},
		{pose(3, -maxCoord, -maxCoord), pose(3, maxCoord, maxCoord), impl.Pose{}},
		{pose(1, maxCoord, -maxCoord), pose(2, maxCoord, -maxCoord), pose(1, 0, 0)},
	}
	for _, c := range cases {
		if got := impl.Between(c.p, c.q); got != c.want {
			t.Errorf("Between(%v, %v) = %v, want %v", c.p, c.q, got, c.want)
		}
	}
}

// P2, P18.
func TestInverse(t *testing.T) {
	cases := map[impl.Pose]impl.Pose{
		{}:                             {},
		pose(0, 3, -4):                 pose(0, -3, 4),
		pose(1, 3, -4):                 pose(3, 4, 3),
		pose(2, 3, -4):                 pose(2, 3, -4),
		pose(3, 3, -4):                 pose(1, -4, -3),
		pose(1, maxCoord, maxCoord):    pose(3, -maxCoord, maxCoord),
		pose(3, -maxCoord, maxCoord):   pose(1, maxCoord, maxCoord),
		pose(0, -maxCoord, maxCoord):   pose(0, maxCoord, -maxCoord),
		pose(2, maxCoord, -maxCoord+1): pose(2, maxCoord, -maxCoord+1),
	}
	for p, want := range cases {
		if got := impl.Inverse(p); got != want {
			t.Errorf("Inverse(%v) = %v, want %v", p, got, want)
		}
	}
	for _, p := range samplePoses() {
		q := impl.Inverse(p)
		got, ok := composedInPlane(p, q)
		if !ok || got != (impl.Pose{}) {
			t.Errorf("Inverse(%v) = %v", p, q)
		}
	}
	for _, p := range invalidPoses() {
		if got := impl.Inverse(p); got != (impl.Pose{}) {
			t.Errorf("Inverse(%v) = %v", p, got)
		}
	}
}

// P2. The zero pose is neutral, and every pose has an inverse on both sides.
func TestPosesHaveANeutralElementAndInverses(t *testing.T) {
	zero := impl.Pose{}
	for _, p := range samplePoses() {
		if impl.Compose(zero, p) != p || impl.Compose(p, zero) != p || impl.Between(zero, p) != p {
			t.Errorf("the zero pose is not neutral for %v", p)
		}
		q := impl.Inverse(p)
		if !impl.IsValidPose(q) || impl.Compose(p, q) != zero || impl.Compose(q, p) != zero || impl.Inverse(q) != p {
			t.Errorf("%v is not the inverse of %v", q, p)
		}
		if impl.Between(p, p) != zero || impl.Between(p, zero) != q {
			t.Errorf("%v relative to itself, or the zero pose relative to it", p)
		}
		if got := impl.ComposeAll([]impl.Pose{p, q, p}); got != p {
			t.Errorf("ComposeAll of %v, its inverse and itself = %v", p, got)
		}
	}
}

// P2.
func TestPosesFormAGroup(t *testing.T) {
	compose, inverse, between := impl.Compose, impl.Inverse, impl.Between
	samples := smallPoses()
	for _, p := range samples {
		for _, q := range samples {
			product := compose(p, q)
			if !impl.IsValidPose(product) || between(p, product) != q || compose(p, between(p, q)) != q {
				t.Errorf("%v after %v is not undone", q, p)
			}
			if inverse(product) != compose(inverse(q), inverse(p)) || inverse(between(p, q)) != between(q, p) {
				t.Errorf("the inverse of %v and %v", p, q)
			}
			// An inverse is the only one.
			if (product == impl.Pose{}) != (q == inverse(p)) {
				t.Errorf("Compose(%v, %v) = %v", p, q, product)
			}
			for _, r := range samples {
				whole := compose(product, r)
				if whole != compose(p, compose(q, r)) {
					t.Errorf("%v, %v and %v do not associate", p, q, r)
				}
				if got := impl.ComposeAll([]impl.Pose{p, q, r}); got != whole {
					t.Errorf("ComposeAll of %v, %v and %v = %v, want %v", p, q, r, got, whole)
				}
				if compose(between(p, q), between(q, r)) != between(p, r) || between(compose(r, p), compose(r, q)) != between(p, q) {
					t.Errorf("relative poses of %v, %v and %v", p, q, r)
				}
			}
		}
	}
}

// P2. A square that is walked in quarter turns leads back to its first corner.
func TestComposeAllAroundASquare(t *testing.T) {
	for _, turn := range []int{1, 3} {
		for _, side := range []int{1, 77, maxCoord} {
			corner := pose(turn, side, 0)
			square := []impl.Pose{corner, corner, corner, corner}
			if got := impl.ComposeAll(square); got != (impl.Pose{}) {
				t.Errorf("a square of side %d with the Turn %d ends at %v", side, turn, got)
			}
			if got, want := impl.ComposeAll(square[:3]), impl.Inverse(corner); got != want {
				t.Errorf("three sides of %d with the Turn %d end at %v, want %v", side, turn, got, want)
			}
		}
	}
}

// P2, P18.
func TestComposeAll(t *testing.T) {
	p, far, bad := pose(1, 3, -4), pose(0, maxCoord, 0), pose(4, 0, 0)
	step, back := pose(0, 1, 0), pose(0, -1, 0)
	cases := []struct {
		name string
		l    []impl.Pose
		want impl.Pose
	}{
		{"nil", nil, impl.Pose{}},
		{"no poses", []impl.Pose{}, impl.Pose{}},
		{"one pose", []impl.Pose{p}, p},
		{"one pose at the limit", []impl.Pose{pose(3, -maxCoord, maxCoord)}, pose(3, -maxCoord, maxCoord)},
		{"one invalid pose", []impl.Pose{bad}, impl.Pose{}},
		{"one pose beyond the limit", []impl.Pose{pose(0, maxCoord+1, 0)}, impl.Pose{}},
		{"two poses", []impl.Pose{p, pose(3, 2, 1)}, pose(0, 2, -2)},
		{"two poses in the other order", []impl.Pose{pose(3, 2, 1), p}, pose(0, -2, -2)},
		{"three poses", []impl.Pose{p, p, pose(2, 10, 0)}, pose(0, -3, -1)},
		{"invalid at the first place", []impl.Pose{bad, p, step}, impl.Pose{}},
		{"invalid in the middle", []impl.Pose{p, bad, step}, impl.Pose{}},
		{"invalid at the last place", []impl.Pose{p, step, bad}, impl.Pose{}},
		{"beyond the limit at the first place", []impl.Pose{pose(0, maxCoord+1, 0), back}, impl.Pose{}},
		{"beyond the limit, but not its sum", []impl.Pose{back, pose(0, maxCoord+1, 0)}, impl.Pose{}},
		{"beyond the limit in the middle", []impl.Pose{back, pose(0, maxCoord+1, 0), p}, impl.Pose{}},
		{"just valid", []impl.Pose{far, back, step}, far},
		{"just not valid at the end", []impl.Pose{far, back, step, step}, impl.Pose{}},
		{"too far in between", []impl.Pose{far, step, back}, impl.Pose{}},
		{"too far in between, and back to somewhere else", []impl.Pose{far, step, pose(0, -20, 5), p}, impl.Pose{}},
		{"too far in Y in between", []impl.Pose{pose(0, 0, -maxCoord), pose(0, 0, -1), pose(0, 5, 9)}, impl.Pose{}},
		{"twice to the limit", []impl.Pose{far, far, pose(0, -maxCoord, 0), p}, impl.Pose{}},
		{"through the zero pose", []impl.Pose{p, pose(3, 4, 3), p}, p},
	}
	for _, c := range cases {
		if got := impl.ComposeAll(c.l); got != c.want {
			t.Errorf("%s: ComposeAll(%v) = %v, want %v", c.name, c.l, got, c.want)
		}
	}
}

// P2, P18.
func TestComposeAllOfEveryShortList(t *testing.T) {
	samples := []impl.Pose{
		{}, pose(1, 0, 0), pose(2, 1, -2), pose(3, 600000, -400000), pose(0, -maxCoord, maxCoord), pose(1, maxCoord, 0), pose(0, 0, -1),
		pose(4, 0, 0), pose(-1, 1, 1), pose(0, maxCoord+1, 0), pose(2, 0, -maxCoord-1), pose(0, math.MaxInt, 0), pose(1, 0, math.MinInt),
	}
	lists := [][]impl.Pose{nil}
	for start := 0; start < len(lists); start++ {
		l := lists[start]
		if got, want := impl.ComposeAll(l), composedAllInPlane(l); got != want {
			t.Errorf("ComposeAll(%v) = %v, want %v", l, got, want)
		}
		if len(l) == 4 {
			continue
		}
		for _, p := range samples {
			lists = append(lists, append(slices.Clone(l), p))
		}
	}
}

// P18. An invalid pose of any kind, at any place.
func TestComposeAllRejectsInvalidPoses(t *testing.T) {
	for _, bad := range invalidPoses() {
		for at := range 4 {
			l := slices.Insert([]impl.Pose{pose(1, 3, -4), pose(0, -5, 0), pose(3, 2, 1)}, at, bad)
			if got := impl.ComposeAll(l); got != (impl.Pose{}) {
				t.Errorf("ComposeAll(%v) = %v", l, got)
			}
		}
	}
}

// P18. The sum of many steps has to stay near at every one of them, however many there are.
func TestComposeAllOfLongLists(t *testing.T) {
	l := slices.Repeat([]impl.Pose{pose(0, 1, -1)}, maxCoord)
	if got, want := impl.ComposeAll(l), pose(0, maxCoord, -maxCoord); got != want {
		t.Errorf("a million steps lead to %v, want %v", got, want)
	}
	if got := impl.ComposeAll(append(l, pose(0, 0, -1))); got != (impl.Pose{}) {
		t.Errorf("a million steps and one lead to %v", got)
	}
	if got := impl.ComposeAll(slices.Repeat([]impl.Pose{pose(1, 5, 0)}, 100003)); got != impl.Inverse(pose(1, 5, 0)) {
		t.Errorf("100003 sides of a square lead to %v", got)
	}
}

// Chapter 1: the list and the capacity behind it stay as they are.
func TestComposeAllDoesNotChangeItsArgument(t *testing.T) {
	whole := []impl.Pose{pose(1, 3, -4), pose(2, 1, 1), pose(3, -7, 2), pose(9, 9, 9), pose(8, 8, 8)}
	for n := range len(whole) + 1 {
		before := slices.Clone(whole)
		first := impl.ComposeAll(whole[:n])
		if again := impl.ComposeAll(whole[:n]); again != first {
			t.Errorf("ComposeAll(%v) = %v and then %v", whole[:n], first, again)
		}
		if !slices.Equal(whole, before) {
			t.Errorf("ComposeAll of %d poses: the list becomes %v", n, whole)
		}
	}
}

func poseText() textForm[impl.Pose] {
	return textForm[impl.Pose]{impl.FormatPose, impl.ParsePose, func(p, q impl.Pose) bool { return p == q }}
}

// P18.
func TestFormatPoseAndParsePose(t *testing.T) {
	texts := map[string]impl.Pose{
		"0,0,e":              {},
		"0,0,n":              pose(1, 0, 0),
		"0,0,w":              pose(2, 0, 0),
		"0,0,s":              pose(3, 0, 0),
		"3,-4,n":             pose(1, 3, -4),
		"-3,4,s":             pose(3, -3, 4),
		"10,-20,w":           pose(2, 10, -20),
		"1000000,-1000000,e": pose(0, maxCoord, -maxCoord),
		"-1000000,1000000,s": pose(3, -maxCoord, maxCoord),
	}
	for s, p := range texts {
		poseText().check(t, p, s)
	}
	for _, p := range samplePoses() {
		poseText().check(t, p, fmt.Sprintf("%d,%d,%c", p.X, p.Y, "enws"[p.Turn]))
	}
	for _, p := range invalidPoses() {
		if s := impl.FormatPose(p); s != "" {
			t.Errorf("FormatPose(%v) = %q", p, s)
		}
	}
}

// P18.
func TestParsePoseRejects(t *testing.T) {
	invalid := []string{
		"", ",", ",,", ",,,", "e", "3", "3,-4", "3,-4,", "3,n", "3,,n", ",-4,n", ",,n", "3,-4,n,", ",3,-4,n", "3,-4,n,n", "3,-4,5,n", "3,,-4,n", "3,-4,,n",
		"+3,-4,n", "3,+4,n", "--3,4,n", "3,--4,n", "-,4,n", "3,-,n", "3-,4,n", "-0,4,n", "3,-0,n", "-0,-0,e", "03,-4,n", "3,-04,n", "00,0,e", "0,00,e",
		" 3,-4,n", "3 ,-4,n", "3, -4,n", "3,-4 ,n", "3,-4, n", "3,-4,n ", "3,- 4,n", "3,-4,n\n", "\n3,-4,n", "3\t,-4,n", "3 -4 n", "3;-4;n", "3,-4;n", "3.-4.n",
		"3,-4,E", "3,-4,N", "3,-4,W", "3,-4,S", "3,-4,x", "3,-4,0", "3,-4,1", "3,-4,-", "3,-4,en", "3,-4,nw", "3,-4,enws", "3,-4,ee", "3,-4,\x00", "3,-4,n\x00",
		"n,3,-4", "3,n,-4", "3,-4,north", "3.0,-4,n", "3,4e1,n", "0x3,4,n", "1_0,4,n", "a,4,n", "3,b,n", "{1 3 -4}", "3,-4,\xff", "3,-4,\u00e9", "\u0663,4,n", "3,\u22124,n", "3\uff0c-4,n",
		"1000001,0,e", "-1000001,0,e", "0,1000001,e", "0,-1000001,e", "10000000,0,n", "0,-9999999,s", "1000001,1000001,w",
		"9223372036854775807,0,e", "-9223372036854775808,0,e", "0,9223372036854775807,e", "0,-9223372036854775808,e",
		"9223372036854775808,0,e", "0,-9223372036854775809,e", "18446744073709551619,4,n", "3,18446744073709551616,n",
		strings.Repeat("1", 5000) + ",0,e", "0," + strings.Repeat("0", 5000) + ",e", strings.Repeat("1,", 5000) + "e", strings.Repeat(",", 5000), "3,-4," + strings.Repeat("n", 5000),
	}
	poseText().checkRejects(t, invalid)
}

// P18.
func TestParsePoseOfEveryLetter(t *testing.T) {
	for b := range 256 {
		s := "3,-4," + string([]byte{byte(b)})
		turn := strings.IndexByte("enws", byte(b))
		if turn >= 0 {
			poseText().check(t, pose(turn, 3, -4), s)
		} else {
			poseText().checkRejects(t, []string{s})
		}
	}
}

// P18.
func TestParsePoseTakesExactlyTheTextsOfPoses(t *testing.T) {
	form := regexp.MustCompile(`^(0|-?[1-9][0-9]*),(0|-?[1-9][0-9]*),([enws])$`)
	count := 0
	for _, s := range textsOver(7, ",", "-", "0", "9", "1000000", "w") {
		var want impl.Pose
		wantOk := false
		if parts := form.FindStringSubmatch(s); parts != nil {
			x, errX := strconv.Atoi(parts[1])
			y, errY := strconv.Atoi(parts[2])
			p := pose(strings.Index("enws", parts[3]), x, y)
			if errX == nil && errY == nil && isPose(p) {
				want, wantOk = p, true
				count++
			}
		}
		if got, ok := impl.ParsePose(s); got != want || ok != wantOk {
			t.Errorf("ParsePose(%q) = %v, %v, want %v, %v", s, got, ok, want, wantOk)
		}
	}
	if count < 50 {
		t.Errorf("only %d of the texts are poses", count)
	}
}
