package tests

import (
	"fmt"
	"math"
	"math/big"
	"math/rand"
	"slices"
	"strings"
	"testing"

	"loop.example/g00810/impl"
)

// fractions reads numbers that are separated by spaces, in any form of math/big. A word that is no number is the zero value.
func fractions(text string) []impl.Rat {
	var l []impl.Rat
	for _, word := range strings.Fields(text) {
		l = append(l, fraction(word))
	}
	return l
}

func matrix(rows ...string) [][]impl.Rat {
	var m [][]impl.Rat
	for _, row := range rows {
		m = append(m, fractions(row))
	}
	return m
}

// matrixOf returns the matrix with an element for every place.
func matrixOf(rows, cols int, element func(i, j int) impl.Rat) [][]impl.Rat {
	m := make([][]impl.Rat, rows)
	for i := range m {
		m[i] = make([]impl.Rat, cols)
		for j := range m[i] {
			m[i][j] = element(i, j)
		}
	}
	return m
}

func unitMatrix(n int) [][]impl.Rat {
	return matrixOf(n, n, func(i, j int) impl.Rat {
		if i == j {
			return fraction("1")
		}
		return fraction("0")
	})
}

func copiedMatrix(m [][]impl.Rat) [][]impl.Rat {
	var rows [][]impl.Rat
	for _, row := range m {
		rows = append(rows, slices.Clone(row))
	}
	return rows
}

func equalRats(a, b []impl.Rat) bool { return slices.EqualFunc(a, b, sameRat) }

func equalMatrices(a, b [][]impl.Rat) bool { return slices.EqualFunc(a, b, equalRats) }

// inLine shows a matrix as text.
func inLine(m [][]impl.Rat) string {
	var rows []string
	for _, row := range m {
		var words []string
		for _, r := range row {
			words = append(words, impl.FormatRat(r))
		}
		rows = append(rows, strings.Join(words, " "))
	}
	return "[" + strings.Join(rows, "; ") + "]"
}

func column(m [][]impl.Rat, j int) []impl.Rat {
	var l []impl.Rat
	for _, row := range m {
		l = append(l, row[j])
	}
	return l
}

// beside returns the rows of a with those of b behind them.
func beside(a, b [][]impl.Rat) [][]impl.Rat {
	var rows [][]impl.Rat
	for i := range a {
		rows = append(rows, slices.Concat(a[i], b[i]))
	}
	return rows
}

// gaussJordanExactly returns what ReduceRows has to return for a matrix with at least as many columns as rows. It fails at the
// first fraction that is too large.
func gaussJordanExactly(m [][]impl.Rat) ([][]impl.Rat, bool) {
	rows := copiedMatrix(m)
	for k := range rows {
		first := k
		for first < len(rows) && quotientOf(rows[first][k]).Sign() == 0 {
			first++
		}
		if first == len(rows) {
			return nil, false
		}
		rows[k], rows[first] = rows[first], rows[k]
		divisor := rows[k][k]
		for j := range rows[k] {
			rows[k][j] = limited((*big.Rat).Quo, rows[k][j], divisor)
		}
		for i, row := range rows {
			factor := row[k]
			for j := range row {
				if i != k {
					row[j] = limited((*big.Rat).Sub, row[j], limited((*big.Rat).Mul, rows[k][j], factor))
				}
				if isZeroRat(row[j]) {
					return nil, false
				}
			}
		}
	}
	return rows, true
}

// multipliedExactly returns what MultiplyMatrices has to return for matrices of the right form, and also the product of others
// that fit together. The rows of the product have cols elements.
func multipliedExactly(a, b [][]impl.Rat, cols int) [][]impl.Rat {
	var product [][]impl.Rat
	for i := range a {
		row := make([]impl.Rat, cols)
		for j := range row {
			row[j] = fraction("0")
			for k := range b {
				row[j] = limited((*big.Rat).Add, row[j], limited((*big.Rat).Mul, a[i][k], b[k][j]))
			}
			if isZeroRat(row[j]) {
				return nil
			}
		}
		product = append(product, row)
	}
	return product
}

// withoutPlace returns m without row i and column j.
func withoutPlace(m [][]impl.Rat, i, j int) [][]impl.Rat {
	rest := slices.Delete(copiedMatrix(m), i, i+1)
	for n, row := range rest {
		rest[n] = slices.Delete(row, j, j+1)
	}
	return rest
}

// determinant expands along the first row, without any division.
func determinant(m [][]impl.Rat) *big.Rat {
	if len(m) == 0 {
		return big.NewRat(1, 1)
	}
	sum := new(big.Rat)
	for j, r := range m[0] {
		part := determinant(withoutPlace(m, 0, j))
		part.Mul(part, quotientOf(r))
		if j%2 == 1 {
			part.Neg(part)
		}
		sum.Add(sum, part)
	}
	return sum
}

// solvedByDeterminants returns the solution of a system whose determinant is not 0.
func solvedByDeterminants(m [][]impl.Rat, b []impl.Rat) []impl.Rat {
	var x []impl.Rat
	for j := range m {
		replaced := copiedMatrix(m)
		for i := range replaced {
			replaced[i][j] = b[i]
		}
		above := determinant(replaced)
		x = append(x, ratOf(above.Quo(above, determinant(m))))
	}
	return x
}

// isSolved reports whether x, put into the system, gives its right side.
func isSolved(m [][]impl.Rat, x, b []impl.Rat) bool {
	if len(x) != len(m) || len(b) != len(m) {
		return false
	}
	for i, row := range m {
		sum := new(big.Rat)
		for j, r := range row {
			sum.Add(sum, new(big.Rat).Mul(quotientOf(r), quotientOf(x[j])))
		}
		if sum.Cmp(quotientOf(b[i])) != 0 {
			return false
		}
	}
	return true
}

// randomMatrix has elements with the given number of limbs, or small ones, many of them 0, if it is 0.
func randomMatrix(r *rand.Rand, rows, cols, limbs int) [][]impl.Rat {
	return matrixOf(rows, cols, func(int, int) impl.Rat {
		if limbs > 0 {
			return randomRat(r, limbs)
		}
		return ratOf(big.NewRat(int64(max(0, r.Intn(30)-9)-10)*int64(r.Intn(3)), int64(1+r.Intn(4))))
	})
}

// everyMatrix calls check for every matrix with these elements.
func everyMatrix(rows, cols int, elements []impl.Rat, check func(m [][]impl.Rat)) {
	count := 1
	for range rows * cols {
		count *= len(elements)
	}
	for n := range count {
		check(matrixOf(rows, cols, func(int, int) impl.Rat {
			r := elements[n%len(elements)]
			n /= len(elements)
			return r
		}))
	}
}

// P18.
func TestIsMatrix(t *testing.T) {
	ten, eleven := unitMatrix(10), unitMatrix(11)
	cases := []struct {
		name string
		m    [][]impl.Rat
		cols int
		want bool
	}{
		{"one element", matrix("5"), 1, true},
		{"one element and no columns", matrix("5"), 0, false},
		{"one element and two columns", matrix("5"), 2, false},
		{"two rows of three", matrix("1 2 3", "4 5/7 -6"), 3, true},
		{"two rows of three, and their number", matrix("1 2 3", "4 5/7 -6"), 2, false},
		{"three rows of two", matrix("1 2", "3 4", "5 6"), 2, true},
		{"three rows of two, and their number", matrix("1 2", "3 4", "5 6"), 3, false},
		{"rows without elements", matrix("", "", ""), 0, true},
		{"rows without elements that are not nil", [][]impl.Rat{{}, nil, {}}, 0, true},
		{"rows without elements and one column", matrix("", ""), 1, false},
		{"rows without elements and a negative number", matrix("", ""), -1, false},
		{"rows and a negative number", matrix("1 2", "3 4"), -2, false},
		{"rows and the least int", matrix("1 2", "3 4"), math.MinInt, false},
		{"rows and the greatest int", matrix("1 2", "3 4"), math.MaxInt, false},
		{"MaxNodes rows", ten, 10, true},
		{"MaxNodes rows of one", matrixOf(10, 1, func(i, j int) impl.Rat { return fraction("1") }), 1, true},
		{"MaxNodes rows of none", make([][]impl.Rat, 10), 0, true},
		{"one row more than MaxNodes", eleven, 11, false},
		{"eleven rows of ten", append(copiedMatrix(ten), ten[0]), 10, false},
		{"eleven rows of none", make([][]impl.Rat, 11), 0, false},
		{"many rows of none", make([][]impl.Rat, 1000), 0, false},
		{"ten of eleven rows", eleven[:10], 11, true},
		{"a long row", matrixOf(1, 1000, func(i, j int) impl.Rat { return fraction("1") }), 1000, true},
	}
	for _, c := range cases {
		if got := impl.IsMatrix(c.m, c.cols); got != c.want {
			t.Errorf("%s: IsMatrix(%s, %d) = %v", c.name, inLine(c.m), c.cols, got)
		}
	}
	// Without rows, there is none that could have another number of elements.
	for _, cols := range []int{math.MinInt, -1, 0, 1, 2, 10, 11, math.MaxInt} {
		if !impl.IsMatrix(nil, cols) || !impl.IsMatrix([][]impl.Rat{}, cols) {
			t.Errorf("IsMatrix of no rows and %d = false", cols)
		}
	}
}

// P18. One row alone is shorter or longer than the others.
func TestIsMatrixOfRowsThatDiffer(t *testing.T) {
	for rows := 1; rows <= 10; rows++ {
		for cols := range 4 {
			m := matrixOf(rows, cols, func(i, j int) impl.Rat { return ratOf(big.NewRat(int64(i), int64(j+1))) })
			for other := -2; other <= 5; other++ {
				if got := impl.IsMatrix(m, other); got != (other == cols) {
					t.Errorf("IsMatrix(%s, %d) = %v", inLine(m), other, got)
				}
			}
			for i := range m {
				longer, shorter, empty := copiedMatrix(m), copiedMatrix(m), copiedMatrix(m)
				longer[i] = append(longer[i], fraction("1"))
				empty[i] = nil
				if cols > 0 {
					shorter[i] = shorter[i][:cols-1]
				}
				if impl.IsMatrix(longer, cols) || impl.IsMatrix(shorter, cols) != (cols == 0) || impl.IsMatrix(empty, cols) != (cols == 0) {
					t.Errorf("IsMatrix of %d rows of %d, but for row %d", rows, cols, i)
				}
				if impl.IsMatrix(longer, cols+1) != (rows == 1) {
					t.Errorf("IsMatrix of %d rows of %d, but for the longer row %d", rows, cols, i)
				}
			}
		}
	}
}

// P18.
func TestIsMatrixOfFractions(t *testing.T) {
	for place := range 6 {
		for _, r := range sampleRats() {
			m := matrix("1 2 3", "4 5 6")
			m[place/3][place%3] = r
			if !impl.IsMatrix(m, 3) {
				t.Errorf("IsMatrix(%s, 3) = false", inLine(m))
			}
		}
		for _, r := range invalidRats() {
			m := matrix("1 2 3", "4 5 6")
			m[place/3][place%3] = r
			if impl.IsMatrix(m, 3) {
				t.Errorf("IsMatrix with %v at %d = true", r, place)
			}
		}
	}
	for place := range 100 {
		m := unitMatrix(10)
		m[place/10][place%10] = impl.Rat{}
		if impl.IsMatrix(m, 10) {
			t.Errorf("IsMatrix of ten rows with the zero value at %d = true", place)
		}
	}
}

// checkReduce compares ReduceRows with the computation of math/big, and reports whether it succeeds.
func checkReduce(t *testing.T, m [][]impl.Rat, cols int) bool {
	t.Helper()
	want, wantOk := gaussJordanExactly(m)
	got, ok := impl.ReduceRows(m, cols)
	if ok != wantOk || !equalMatrices(got, want) {
		t.Errorf("ReduceRows(%s, %d) = %s, %v, want %s, %v", inLine(m), cols, inLine(got), ok, inLine(want), wantOk)
	}
	return ok
}

func checkReduceRowsFails(t *testing.T, name string, m [][]impl.Rat, cols int) {
	t.Helper()
	if got, ok := impl.ReduceRows(m, cols); ok || len(got) > 0 {
		t.Errorf("%s: ReduceRows(%s, %d) = %s, %v", name, inLine(m), cols, inLine(got), ok)
	}
}

// P5, P18.
func TestReduceRows(t *testing.T) {
	cases := []struct {
		name    string
		m, want [][]impl.Rat
	}{
		{"one row", matrix("4 6 -2"), matrix("1 3/2 -1/2")},
		{"one row with a fraction first", matrix("-2/3 6 1/2 0"), matrix("1 -9 -3/4 0")},
		{"one element", matrix("-7/5"), matrix("1")},
		{"an equation for each unknown", matrix("2 -1 -4", "-1 2 11"), matrix("1 0 1", "0 1 6")},
		{"as many columns as rows", matrix("2 -1", "-1 2"), matrix("1 0", "0 1")},
		{"two columns more", matrix("2 -1 1 0", "-1 2 0 1"), matrix("1 0 2/3 1/3", "0 1 1/3 2/3")},
		{"the first element is 0", matrix("0 2 6", "5 0 10"), matrix("1 0 2", "0 1 3")},
		{"the first two are 0", matrix("0 0 4 8", "0 3 0 9", "2 0 0 2"), matrix("1 0 0 1", "0 1 0 3", "0 0 1 2")},
		{"an element becomes 0", matrix("1 2 3 1", "2 4 7 2", "1 3 3 4"), matrix("1 0 0 -5", "0 1 0 3", "0 0 1 0")},
		{"the last element becomes 0 and the row is above", matrix("0 1 1 2", "1 1 0 2", "1 0 1 2"), matrix("1 0 0 1", "0 1 0 1", "0 0 1 1")},
		{"only the columns behind are 0", matrix("2 1 0 0", "1 1 0 0"), matrix("1 0 0 0", "0 1 0 0")},
		{"already reduced", matrix("1 0 5", "0 1 7/3"), matrix("1 0 5", "0 1 7/3")},
		{"in the other order", matrix("0 1 7/3", "1 0 5"), matrix("1 0 5", "0 1 7/3")},
	}
	for _, c := range cases {
		got, ok := impl.ReduceRows(c.m, len(c.m[0]))
		if !ok || !equalMatrices(got, c.want) {
			t.Errorf("%s: ReduceRows(%s) = %s, %v, want %s", c.name, inLine(c.m), inLine(got), ok, inLine(c.want))
		}
		if !checkReduce(t, c.m, len(c.m[0])) {
			t.Errorf("%s: gaussJordanExactly fails", c.name)
		}
	}
}

// P18. A matrix without rows is reduced as it is, unless cols is negative, and so less than the number of rows.
func TestReduceRowsWithoutRows(t *testing.T) {
	for _, cols := range []int{0, 1, 2, 10, 1000, math.MaxInt} {
		for _, m := range [][][]impl.Rat{nil, {}} {
			if got, ok := impl.ReduceRows(m, cols); !ok || len(got) > 0 {
				t.Errorf("ReduceRows of no rows and %d = %s, %v", cols, inLine(got), ok)
			}
		}
	}
	for _, cols := range []int{-1, -2, math.MinInt} {
		checkReduceRowsFails(t, "no rows", nil, cols)
		checkReduceRowsFails(t, "no rows", [][]impl.Rat{}, cols)
	}
}

// P18. In every case there is a k for which no row is left.
func TestReduceRowsOfSingularMatrices(t *testing.T) {
	for _, c := range []struct {
		name string
		m    [][]impl.Rat
	}{
		{"0", matrix("0")},
		{"0 and more", matrix("0 5 7")},
		{"a column of 0", matrix("0 1 1", "0 2 3")},
		{"the second column is 0", matrix("1 0 1", "2 0 3")},
		{"the last column is 0", matrix("1 2 0 1", "3 4 0 1", "5 7 0 1")},
		{"a row twice", matrix("1 2 5", "1 2 5")},
		{"a row twice, with two right sides", matrix("1 2 5", "1 2 6")},
		{"a multiple of a row", matrix("1 2 5", "-1/2 -1 6")},
		{"the sum of two rows", matrix("1 2 3 1", "4 5 6 2", "5 7 9 4")},
		{"a row of 0", matrix("1 2 5", "0 0 0")},
		{"a row of 0 first", matrix("0 0 0", "1 2 5")},
		{"a row of 0 before the right side", matrix("1 2 5", "0 0 1")},
		// The row above cannot be taken again.
		{"only the row above is not 0 in the second column", matrix("1 1 5", "2 2 6")},
		{"nothing but 0", matrix("0 0", "0 0")},
	} {
		checkReduceRowsFails(t, c.name, c.m, len(c.m[0]))
		if checkReduce(t, c.m, len(c.m[0])) {
			t.Errorf("%s: gaussJordanExactly succeeds", c.name)
		}
	}
}

// P18. The rows are those of any matrix, and only cols is wrong, or the matrix is too narrow or too high.
func TestReduceRowsOfAllSizes(t *testing.T) {
	for rows := range 13 {
		for cols := range 14 {
			m := matrixOf(rows, cols, func(i, j int) impl.Rat { return ratOf(big.NewRat(1, int64(i+j+1))) })
			name := fmt.Sprintf("%d rows of %d", rows, cols)
			got, ok := impl.ReduceRows(m, cols)
			if want := rows <= cols && rows <= 10; ok != want || ok && len(got) != rows || !ok && len(got) > 0 {
				t.Errorf("%s: ReduceRows = %s, %v", name, inLine(got), ok)
			}
			if ok && rows > 0 && !checkReduce(t, m, cols) {
				t.Errorf("%s: gaussJordanExactly fails", name)
			}
			for _, other := range []int{math.MinInt, -1, 0, cols - 1, cols + 1, rows, math.MaxInt} {
				if rows > 0 && other != cols {
					checkReduceRowsFails(t, name, m, other)
				}
			}
		}
	}
	checkReduceRowsFails(t, "rows of different lengths", matrix("1 2 3", "4 5"), 3)
	checkReduceRowsFails(t, "rows of different lengths", matrix("1 2 3", "4 5"), 2)
	checkReduceRowsFails(t, "rows of different lengths", matrix("1 2", "3 4 5"), 2)
	checkReduceRowsFails(t, "a row that is nil", [][]impl.Rat{fractions("1 2"), nil}, 2)
}

// checkReducedRows checks that the first columns are those of the identity matrix, and that the rows of m are the sums of the
// reduced ones that the first columns of m demand.
func checkReducedRows(t *testing.T, m, got [][]impl.Rat, cols int) {
	t.Helper()
	n := len(m)
	for i, row := range got {
		if !equalRats(row[:n], unitMatrix(n)[i]) {
			t.Errorf("ReduceRows(%s) = %s", inLine(m), inLine(got))
		}
	}
	var left [][]impl.Rat
	for _, row := range m {
		left = append(left, row[:n])
	}
	if again := multipliedExactly(left, got, cols); !equalMatrices(again, m) {
		t.Errorf("ReduceRows(%s) = %s, which are the rows of %s", inLine(m), inLine(got), inLine(again))
	}
}

// P5, P18. The rows can be reduced exactly if the determinant of the first columns is not 0.
func TestReduceRowsOfEverySmallMatrix(t *testing.T) {
	for _, c := range []struct {
		rows, cols int
		elements   string
	}{
		{1, 1, "-2 -1/2 0 1 3"}, {1, 3, "-2 -1/2 0 1 3"}, {2, 2, "-2 -1/2 0 1 3"}, {2, 3, "-1/2 0 1 3"}, {2, 4, "-1/2 0 1"}, {3, 3, "0 1 -2"}, {3, 4, "0 1"},
	} {
		counts := map[bool]int{}
		everyMatrix(c.rows, c.cols, fractions(c.elements), func(m [][]impl.Rat) {
			var left [][]impl.Rat
			for _, row := range m {
				left = append(left, row[:c.rows])
			}
			got, ok := impl.ReduceRows(m, c.cols)
			if ok != (determinant(left).Sign() != 0) {
				t.Errorf("ReduceRows(%s) = %s, %v", inLine(m), inLine(got), ok)
			}
			if ok {
				checkReducedRows(t, m, got, c.cols)
			} else if len(got) > 0 {
				t.Errorf("ReduceRows(%s) = %s, %v", inLine(m), inLine(got), ok)
			}
			counts[ok]++
		})
		if counts[true] == 0 || counts[false] == 0 {
			t.Errorf("the successes of ReduceRows for %d rows of %d: %v", c.rows, c.cols, counts)
		}
	}
}

// P5, P18. With more limbs, some fractions are too large.
func TestReduceRowsOfRandomMatrices(t *testing.T) {
	r := rand.New(rand.NewSource(41))
	counts := map[bool]int{}
	for n := range 300 {
		rows := 1 + n%5
		cols := rows + r.Intn(3)
		m := randomMatrix(r, rows, cols, n%8)
		ok := checkReduce(t, m, cols)
		if ok {
			got, _ := impl.ReduceRows(m, cols)
			checkReducedRows(t, m, got, cols)
		}
		counts[ok]++
	}
	if counts[true] < 50 || counts[false] < 50 {
		t.Errorf("the successes of ReduceRows: %v", counts)
	}
}

// P18. In each group of cases, one fraction is just valid and then just too large, or the same rows in another order lead to
// other fractions on the way.
func TestReduceRowsAtTheLimit(t *testing.T) {
	nines, zeros := strings.Repeat("9", 216), strings.Repeat("0", 215)
	eights := nines[1:] + "8"
	thirds := strings.Repeat("3", 216)
	for _, c := range []struct {
		name string
		m    [][]impl.Rat
		ok   bool
	}{
		{"one great row", matrix(nines + " " + nines + " 1/" + nines[1:] + "8"), false},
		{"one great row divided by itself", matrix(nines + " " + nines + " -" + nines), true},
		{"one row of great denominators", matrix("1/" + nines + " -1/" + nines), true},
		{"a quotient", matrix("1/3 " + thirds), true},
		{"a quotient", matrix("1/3 " + thirds[1:] + "4"), false},
		{"a negative quotient", matrix("-1/3 " + thirds), true},
		{"a negative quotient", matrix("-1/3 " + thirds[1:] + "4"), false},
		{"the denominator of a quotient", matrix("2 1/4" + zeros), true},
		{"the denominator of a quotient", matrix("2 1/5" + zeros), false},
		{"a quotient in the last column", matrix("1/3 0 0 "+thirds[1:]+"4", "0 1 0 0", "0 0 1 0"), false},
		{"a quotient in the last row", matrix("1 0 0 0", "0 1 0 0", "0 0 1/3 "+thirds[1:]+"4"), false},
		{"a product", matrix("1 1e107", "1e107 1"), true},
		{"a product", matrix("1 1e108", "1e108 1"), false},
		{"a product whose difference is small", matrix("1 1e108", "1e108 "+nines), false},
		{"a product behind", matrix("1 0 1e108", "1e107 1 0"), true},
		{"a product behind", matrix("1 0 1e108", "1e108 1 0"), false},
		{"the denominator of a product", matrix("1 0 1e-108", "1e-107 1 0"), true},
		{"the denominator of a product", matrix("1 0 1e-108", "1e-108 1 0"), false},
		{"a difference", matrix("1 0 -1", "1 1 "+eights), true},
		{"a difference", matrix("1 0 -1", "1 1 "+nines), false},
		{"a difference in the row above", matrix("1 1 "+eights, "0 1 -1"), true},
		{"a difference in the row above", matrix("1 1 "+nines, "0 1 -1"), false},
		{"the denominator of a difference", matrix("1 0 1e-200", "1 1 1/7"), true},
		{"the denominator of a difference", matrix("1 0 1e-215", "1 1 1/11"), false},
		{"a difference on the way", matrix("1 0 0 1", "0 1 0 -1", "1 1 1 -"+eights), true},
		{"a difference on the way", matrix("1 0 0 1", "0 1 0 -1", "1 1 1 -"+nines), false},
		// The first row that can be taken is taken.
		{"the first row", matrix("1 1e108", "1e108 0"), false},
		{"the first row", matrix("1e108 0", "1 1e108"), true},
		{"the first row, below one with 0", matrix("0 0 1", "1 1e108 0", "1e108 0 0"), false},
		{"the first row, below one with 0", matrix("0 0 1", "1e108 0 0", "1 1e108 0"), true},
		// The rows in between stay where they are.
		{"rows exchanged", matrix("0 1e108 0", "0 1 1e108", "1 0 0"), false},
		{"rows exchanged", matrix("0 1 1e108", "0 1e108 0", "1 0 0"), true},
		// All other rows are reduced at once, from the first column to the last one.
		{"the rows above at once", matrix("1 1e108 0", "0 1 1e108", "0 0 1"), false},
		{"the rows above at once", matrix("1 1e100 1e200 0", "0 1 1e100 0", "0 0 1 1e100"), true},
		// The row is divided before it is subtracted.
		{"the row divided first", matrix("1e108 1e108", "1e108 0"), true},
		{"the row divided first", matrix("1/3 0 "+thirds[1:]+"4", "1/3 1 "+thirds[1:]+"4"), false},
	} {
		if got := checkReduce(t, c.m, len(c.m[0])); got != c.ok {
			t.Errorf("%s: the success of ReduceRows(%s) is %v", c.name, inLine(c.m), got)
		}
	}
}

// placesIn calls check for a copy of m with every value that is not valid in every place.
func placesIn(m [][]impl.Rat, check func(name string, spoiled [][]impl.Rat)) {
	for i, row := range m {
		for j := range row {
			for n, r := range invalidRats() {
				spoiled := copiedMatrix(m)
				spoiled[i][j] = r
				check(fmt.Sprintf("invalid fraction %d at %d, %d", n, i, j), spoiled)
			}
		}
	}
}

// P18. Elements that are not valid are wrong also where the result would not need them.
func TestReduceRowsRejectsInvalidFractions(t *testing.T) {
	for _, m := range [][][]impl.Rat{matrix("1"), matrix("1 2"), matrix("2 -1 -4", "-1 2 11"), matrix("1 0 0 0", "0 1 0 0", "0 0 1 0")} {
		cols := len(m[0])
		placesIn(m, func(name string, spoiled [][]impl.Rat) { checkReduceRowsFails(t, name, spoiled, cols) })
	}
}

func checkSolveFails(t *testing.T, name string, m [][]impl.Rat, b []impl.Rat) {
	t.Helper()
	if got, ok := impl.SolveSystem(m, b); ok || len(got) > 0 {
		t.Errorf("%s: SolveSystem(%s, %s) = %v, %v", name, inLine(m), inLine([][]impl.Rat{b}), got, ok)
	}
}

// P5, P18.
func TestSolveSystem(t *testing.T) {
	cases := []struct {
		name       string
		m          [][]impl.Rat
		b, want    string
		hasNoValue bool
	}{
		{"one equation", matrix("4"), "6", "3/2", false},
		{"one equation with the right side 0", matrix("-4/7"), "0", "0", false},
		{"one equation without a solution", matrix("0"), "6", "", true},
		{"one equation with all solutions", matrix("0"), "0", "", true},
		{"two equations", matrix("2 -1", "-1 2"), "-4 11", "1 6", false},
		{"two equations in the other order", matrix("-1 2", "2 -1"), "11 -4", "1 6", false},
		{"two equations of one unknown each", matrix("0 2", "3 0"), "4 5", "5/3 2", false},
		{"two equations of fractions", matrix("1/2 1/3", "1/4 1/5"), "1 0", "12 -15", false},
		{"two equations that are the same", matrix("1 2", "1 2"), "3 3", "", true},
		{"two equations that contradict each other", matrix("1 2", "2 4"), "3 3", "", true},
		{"three equations", matrix("1 1 1", "0 2 5", "2 5 -1"), "6 -4 27", "5 3 -2", false},
		{"three equations, the first elements 0", matrix("0 2 5", "0 1 1", "2 5 -1"), "-4 1 27", "5 3 -2", false},
		{"the solution 0", matrix("3 1", "1 3"), "0 0", "0 0", false},
	}
	for _, c := range cases {
		b := fractions(c.b)
		if c.hasNoValue {
			checkSolveFails(t, c.name, c.m, b)
			continue
		}
		got, ok := impl.SolveSystem(c.m, b)
		if !ok || !equalRats(got, fractions(c.want)) || !isSolved(c.m, got, b) {
			t.Errorf("%s: SolveSystem(%s, %s) = %v, %v, want %s", c.name, inLine(c.m), c.b, got, ok, c.want)
		}
	}
}

// P18. No equations have a solution without elements.
func TestSolveSystemWithoutEquations(t *testing.T) {
	for _, m := range [][][]impl.Rat{nil, {}} {
		for _, b := range [][]impl.Rat{nil, {}} {
			if got, ok := impl.SolveSystem(m, b); !ok || len(got) > 0 {
				t.Errorf("SolveSystem(%v, %v) = %v, %v", m, b, got, ok)
			}
		}
		checkSolveFails(t, "a right side without an equation", m, fractions("1"))
		checkSolveFails(t, "a right side of 0 without an equation", m, fractions("0"))
		checkSolveFails(t, "a right side that is not valid without an equation", m, []impl.Rat{{}})
	}
}

// P18. m has no less and no more rows than columns, and b has as many elements.
func TestSolveSystemOfAllSizes(t *testing.T) {
	for rows := range 13 {
		for cols := range 13 {
			for count := range 14 {
				m := matrixOf(rows, cols, func(i, j int) impl.Rat { return ratOf(big.NewRat(1, int64(i+j+1))) })
				b := make([]impl.Rat, count)
				for i := range b {
					b[i] = ratOf(big.NewRat(int64(i-2), 1))
				}
				// Rows behind the list and elements behind the right side do not belong to them.
				m = append(m, fractions("1 2 3"))[:rows]
				b = append(b, fraction("1"))[:count]
				if rows == count && rows <= 10 && (rows == cols || rows == 0) {
					if got, ok := impl.SolveSystem(m, b); !ok || !isSolved(m, got, b) {
						t.Errorf("SolveSystem of %d equations = %v, %v", rows, got, ok)
					}
					continue
				}
				checkSolveFails(t, fmt.Sprintf("%d rows of %d and %d right sides", rows, cols, count), m, b)
			}
		}
	}
	checkSolveFails(t, "b is nil", matrix("1"), nil)
	checkSolveFails(t, "b is nil", matrix("2 -1", "-1 2"), nil)
	checkSolveFails(t, "a longer row", matrix("2 -1 0", "-1 2"), fractions("1 1"))
	checkSolveFails(t, "a longer last row", matrix("2 -1", "-1 2 0"), fractions("1 1"))
	checkSolveFails(t, "a shorter row", matrix("2", "-1 2"), fractions("1 1"))
	checkSolveFails(t, "a row that is nil", [][]impl.Rat{fractions("2 -1"), nil}, fractions("1 1"))
	checkSolveFails(t, "rows that have their right side already", matrix("2 -1 -4", "-1 2 11"), nil)
	checkSolveFails(t, "rows without elements and right sides", matrix("", ""), fractions("1 1"))
}

// P5, P18.
func TestSolveSystemOfEverySmallSystem(t *testing.T) {
	for _, c := range []struct {
		n           int
		elements, b string
	}{
		{1, "-2 -1/2 0 1 3", "5/7"}, {2, "-2 -1/2 0 1 3", "5 -1/3"}, {2, "-2 -1/2 0 1 3", "0 1"}, {3, "0 1", "1 0 -3/2"}, {3, "0 -2", "2 1 1"}, {3, "1 -1/2", "1 0 1"},
	} {
		b := fractions(c.b)
		everyMatrix(c.n, c.n, fractions(c.elements), func(m [][]impl.Rat) {
			if determinant(m).Sign() == 0 {
				checkSolveFails(t, "the determinant is 0", m, b)
			} else if got, ok := impl.SolveSystem(m, b); !ok || !equalRats(got, solvedByDeterminants(m, b)) || !isSolved(m, got, b) {
				t.Errorf("SolveSystem(%s, %s) = %v, %v", inLine(m), c.b, got, ok)
			}
		})
	}
}

// P5, P18. A solution, put into the system, gives its right side. A system that is made from a solution has it.
func TestSolveSystemOfRandomSystems(t *testing.T) {
	r := rand.New(rand.NewSource(42))
	counts := map[bool]int{}
	for n := range 400 {
		size := 1 + n%6
		if n%50 == 0 {
			size = 10
		}
		limbs := n / 6 % 5
		m := randomMatrix(r, size, size, limbs)
		x := randomMatrix(r, size, 1, limbs)
		sides := multipliedExactly(m, x, 1)
		if len(sides) == 0 {
			continue
		}
		b := column(sides, 0)
		reduced, wantOk := gaussJordanExactly(beside(m, sides))
		got, ok := impl.SolveSystem(m, b)
		if ok != wantOk || ok && (!equalRats(got, column(x, 0)) || !equalRats(got, column(reduced, size)) || !isSolved(m, got, b)) || !ok && len(got) > 0 {
			t.Errorf("SolveSystem(%s, %s) = %v, %v, want %s, %v", inLine(m), inLine(sides), got, ok, inLine(x), wantOk)
		}
		counts[ok]++
	}
	if counts[true] < 100 || counts[false] < 50 {
		t.Errorf("the successes of SolveSystem: %v", counts)
	}
}

// P18.
func TestSolveSystemAtTheLimit(t *testing.T) {
	nines, thirds := strings.Repeat("9", 216), strings.Repeat("3", 216)
	for _, c := range []struct {
		name string
		m    [][]impl.Rat
		b    string
		ok   bool
	}{
		{"the solution", matrix("1/3"), thirds, true},
		{"the solution", matrix("1/3"), thirds[1:] + "4", false},
		{"the denominator of the solution", matrix("2"), "1/4" + strings.Repeat("0", 215), true},
		{"the denominator of the solution", matrix("2"), "1/5" + strings.Repeat("0", 215), false},
		{"a great system", matrix(nines), nines, true},
		{"the last unknown", matrix("1 0", "0 1/3"), "0 " + thirds[1:] + "4", false},
		{"a product on the way", matrix("1 1e108", "1e108 1"), "0 0", false},
		{"a product on the way", matrix("1 1e107", "1e107 1"), "0 0", true},
		{"a product with the right side", matrix("1 0", "1e108 1"), "1e108 0", false},
		{"a product with the right side that is small in the end", matrix("1 0", "1e108 1"), "1e108 " + nines, false},
	} {
		b := fractions(c.b)
		got, ok := impl.SolveSystem(c.m, b)
		if ok != c.ok || ok && !isSolved(c.m, got, b) || !ok && len(got) > 0 {
			t.Errorf("%s: SolveSystem(%s, %s) = %v, %v", c.name, inLine(c.m), c.b, got, ok)
		}
	}
}

// P18.
func TestSolveSystemRejectsInvalidFractions(t *testing.T) {
	for _, c := range []struct {
		m [][]impl.Rat
		b string
	}{
		{matrix("1"), "1"}, {matrix("2 -1", "-1 2"), "-4 11"}, {matrix("1 0 0", "0 1 0", "0 0 1"), "0 0 0"},
	} {
		b := fractions(c.b)
		placesIn(c.m, func(name string, spoiled [][]impl.Rat) { checkSolveFails(t, name, spoiled, b) })
		placesIn([][]impl.Rat{b}, func(name string, spoiled [][]impl.Rat) { checkSolveFails(t, name+" of b", c.m, spoiled[0]) })
	}
}

// checkInverse checks that a matrix times its inverse is the identity, on both sides.
func checkInverse(t *testing.T, m, inverse [][]impl.Rat) {
	t.Helper()
	n := len(m)
	if !impl.IsMatrix(inverse, n) || len(inverse) != n {
		t.Fatalf("the inverse of %s is %s", inLine(m), inLine(inverse))
	}
	unit := unitMatrix(n)
	for j := range m {
		// Here the elements on the way may be as large as they are.
		if !isSolved(m, column(inverse, j), unit[j]) || !isSolved(inverse, column(m, j), unit[j]) {
			t.Errorf("%s is not the inverse of %s", inLine(inverse), inLine(m))
		}
	}
}

func checkInvertFails(t *testing.T, name string, m [][]impl.Rat) {
	t.Helper()
	if got, ok := impl.InvertMatrix(m); ok || len(got) > 0 {
		t.Errorf("%s: InvertMatrix(%s) = %s, %v", name, inLine(m), inLine(got), ok)
	}
}

// P5, P18.
func TestInvertMatrix(t *testing.T) {
	cases := []struct {
		name    string
		m, want [][]impl.Rat
	}{
		{"one row", matrix("-4/3"), matrix("-3/4")},
		{"one row with 1", matrix("1"), matrix("1")},
		{"two rows", matrix("2 -1", "-1 2"), matrix("2/3 1/3", "1/3 2/3")},
		{"not symmetric", matrix("1 2", "3 4"), matrix("-2 1", "3/2 -1/2")},
		{"rows exchanged", matrix("0 1", "1 0"), matrix("0 1", "1 0")},
		{"all rows exchanged in a circle", matrix("0 2 0", "0 0 3", "5 0 0"), matrix("0 0 1/5", "1/2 0 0", "0 1/3 0")},
		{"a triangle", matrix("1 2 3", "0 1 4", "0 0 1"), matrix("1 -2 5", "0 1 -4", "0 0 1")},
		{"the identity", unitMatrix(10), unitMatrix(10)},
	}
	for _, c := range cases {
		got, ok := impl.InvertMatrix(c.m)
		if !ok || !equalMatrices(got, c.want) {
			t.Fatalf("%s: InvertMatrix(%s) = %s, %v, want %s", c.name, inLine(c.m), inLine(got), ok, inLine(c.want))
		}
		checkInverse(t, c.m, got)
		if back, ok := impl.InvertMatrix(got); !ok || !equalMatrices(back, c.m) {
			t.Errorf("%s: InvertMatrix(%s) = %s, %v, want %s", c.name, inLine(got), inLine(back), ok, inLine(c.m))
		}
	}
	for _, m := range [][][]impl.Rat{nil, {}} {
		if got, ok := impl.InvertMatrix(m); !ok || len(got) > 0 {
			t.Errorf("InvertMatrix of no rows = %s, %v", inLine(got), ok)
		}
	}
}

// P5, P18. The inverse of 1 / (i + j + 1) has whole elements, which are products of binomial coefficients.
func TestInvertMatrixOfAllSizes(t *testing.T) {
	over := func(n, k int) *big.Int { return new(big.Int).Binomial(int64(n), int64(k)) }
	for n := 1; n <= 10; n++ {
		m := matrixOf(n, n, func(i, j int) impl.Rat { return ratOf(big.NewRat(1, int64(i+j+1))) })
		want := matrixOf(n, n, func(i, j int) impl.Rat {
			x := big.NewInt(int64(i + j + 1))
			for _, y := range []*big.Int{over(n+i, n-j-1), over(n+j, n-i-1), over(i+j, i), over(i+j, i)} {
				x.Mul(x, y)
			}
			if (i+j)%2 == 1 {
				x.Neg(x)
			}
			return ratOf(new(big.Rat).SetInt(x))
		})
		if got, ok := impl.InvertMatrix(m); !ok || !equalMatrices(got, want) {
			t.Errorf("InvertMatrix(%s) = %s, %v, want %s", inLine(m), inLine(got), ok, inLine(want))
		}
	}
	checkInvertFails(t, "eleven rows", unitMatrix(11))
	checkInvertFails(t, "ten rows of eleven", unitMatrix(11)[:10])
	for rows := 1; rows < 12; rows++ {
		for cols := range 14 {
			if rows != cols {
				checkInvertFails(t, "not square", matrixOf(rows, cols, func(i, j int) impl.Rat { return ratOf(big.NewRat(1, int64(i+j+1))) }))
			}
		}
	}
	checkInvertFails(t, "a longer row", matrix("2 -1 0", "-1 2"))
	checkInvertFails(t, "a shorter row", matrix("2 -1", "2"))
	checkInvertFails(t, "with the identity already", matrix("2 -1 1 0", "-1 2 0 1"))
}

// P5, P18. A matrix has an inverse exactly if its determinant is not 0.
func TestInvertMatrixOfEverySmallMatrix(t *testing.T) {
	for _, c := range []struct {
		n        int
		elements string
	}{{1, "-2 -1/2 0 1 3"}, {2, "-2 -1/2 0 1 3"}, {3, "0 1"}, {3, "0 -2"}, {3, "1 -1/2"}} {
		n := c.n
		everyMatrix(n, n, fractions(c.elements), func(m [][]impl.Rat) {
			d := determinant(m)
			if d.Sign() == 0 {
				checkInvertFails(t, "the determinant is 0", m)
				return
			}
			want := matrixOf(n, n, func(i, j int) impl.Rat {
				q := determinant(withoutPlace(m, j, i))
				if (i+j)%2 == 1 {
					q.Neg(q)
				}
				return ratOf(q.Quo(q, d))
			})
			if got, ok := impl.InvertMatrix(m); !ok || !equalMatrices(got, want) {
				t.Errorf("InvertMatrix(%s) = %s, %v, want %s", inLine(m), inLine(got), ok, inLine(want))
			}
		})
	}
}

// P5, P18. With more limbs, some fractions are too large.
func TestInvertMatrixOfRandomMatrices(t *testing.T) {
	r := rand.New(rand.NewSource(43))
	counts := map[bool]int{}
	for n := range 250 {
		size := 1 + n%6
		m := randomMatrix(r, size, size, n/6%6)
		reduced, wantOk := gaussJordanExactly(beside(m, unitMatrix(size)))
		got, ok := impl.InvertMatrix(m)
		counts[ok]++
		if ok != wantOk || !ok && len(got) > 0 {
			t.Errorf("InvertMatrix(%s) = %s, %v", inLine(m), inLine(got), ok)
		}
		if !ok {
			continue
		}
		checkInverse(t, m, got)
		for j := range m {
			if !equalRats(column(got, j), column(reduced, size+j)) {
				t.Errorf("column %d of InvertMatrix(%s) = %s", j, inLine(m), inLine(got))
			}
			if x, ok := impl.SolveSystem(m, unitMatrix(size)[j]); ok && !equalRats(x, column(got, j)) {
				t.Errorf("column %d of InvertMatrix(%s) = %s, and SolveSystem = %v", j, inLine(m), inLine(got), x)
			}
		}
		// The products of great fractions can be too large on the way.
		for _, pair := range [][2][][]impl.Rat{{m, got}, {got, m}} {
			if product := impl.MultiplyMatrices(pair[0], pair[1]); (n/6%6 == 0 || len(product) > 0) && !equalMatrices(product, unitMatrix(size)) {
				t.Errorf("MultiplyMatrices(%s, %s) = %s", inLine(pair[0]), inLine(pair[1]), inLine(product))
			}
		}
	}
	if counts[true] < 80 || counts[false] < 40 {
		t.Errorf("the successes of InvertMatrix: %v", counts)
	}
}

// P18.
func TestInvertMatrixAtTheLimit(t *testing.T) {
	nines := strings.Repeat("9", 216)
	for _, c := range []struct {
		name string
		m    [][]impl.Rat
		ok   bool
	}{
		{"the greatest element", matrix(nines), true},
		{"the least element", matrix("-1/" + nines), true},
		{"great elements", matrix(nines+" 0", "0 1/"+nines), true},
		{"a product", matrix("1 1e107", "1e107 1"), true},
		{"a product", matrix("1 1e108", "1e108 1"), false},
		{"a product of what the identity becomes", matrix("1e-108 0", "1e107 1"), true},
		{"a product of what the identity becomes", matrix("1e-108 0", "1e108 1"), false},
		{"singular", matrix("0"), false},
		{"singular with great elements", matrix(nines+" "+nines, nines+" "+nines), false},
	} {
		got, ok := impl.InvertMatrix(c.m)
		if ok != c.ok || !ok && len(got) > 0 {
			t.Errorf("%s: InvertMatrix(%s) = %s, %v", c.name, inLine(c.m), inLine(got), ok)
		}
		if ok {
			checkInverse(t, c.m, got)
		}
	}
}

// P18.
func TestInvertMatrixRejectsInvalidFractions(t *testing.T) {
	for _, m := range [][][]impl.Rat{matrix("1"), matrix("2 -1", "-1 2"), unitMatrix(3)} {
		placesIn(m, func(name string, spoiled [][]impl.Rat) { checkInvertFails(t, name, spoiled) })
	}
}

func checkMultiplyFails(t *testing.T, name string, a, b [][]impl.Rat) {
	t.Helper()
	if got := impl.MultiplyMatrices(a, b); len(got) > 0 {
		t.Errorf("%s: MultiplyMatrices(%s, %s) = %s", name, inLine(a), inLine(b), inLine(got))
	}
}

// P18.
func TestMultiplyMatrices(t *testing.T) {
	cases := []struct {
		name       string
		a, b, want [][]impl.Rat
	}{
		{"one row", matrix("2/3"), matrix("-9/4"), matrix("-3/2")},
		{"one row with 0", matrix("0"), matrix("5"), matrix("0")},
		{"two rows", matrix("1 2", "3 4"), matrix("5 6", "7 8"), matrix("19 22", "43 50")},
		{"two rows in the other order", matrix("5 6", "7 8"), matrix("1 2", "3 4"), matrix("23 34", "31 46")},
		{"a matrix and its inverse", matrix("2 -1", "-1 2"), matrix("2/3 1/3", "1/3 2/3"), matrix("1 0", "0 1")},
		{"rows exchanged", matrix("0 1 0", "0 0 1", "1 0 0"), matrix("1 2 3", "4 5 6", "7 8 9"), matrix("4 5 6", "7 8 9", "1 2 3")},
		{"columns exchanged", matrix("1 2 3", "4 5 6", "7 8 9"), matrix("0 1 0", "0 0 1", "1 0 0"), matrix("3 1 2", "6 4 5", "9 7 8")},
		{"nothing but 0", matrix("0 0", "0 0"), matrix("1 2", "3 4"), matrix("0 0", "0 0")},
		{"its square is 0", matrix("0 1", "0 0"), matrix("0 1", "0 0"), matrix("0 0", "0 0")},
		{"no rows", nil, nil, nil},
		{"no rows that are not nil", [][]impl.Rat{}, [][]impl.Rat{}, nil},
	}
	for _, c := range cases {
		if got := impl.MultiplyMatrices(c.a, c.b); !equalMatrices(got, c.want) {
			t.Errorf("%s: MultiplyMatrices(%s, %s) = %s, want %s", c.name, inLine(c.a), inLine(c.b), inLine(got), inLine(c.want))
		}
	}
}

// P18. Also products that would exist for matrices that are not square are no results.
func TestMultiplyMatricesOfAllSizes(t *testing.T) {
	sized := func(rows, cols int) [][]impl.Rat {
		return matrixOf(rows, cols, func(i, j int) impl.Rat { return ratOf(big.NewRat(int64(i+2), int64(j+1))) })
	}
	for rows := range 5 {
		for cols := range 5 {
			for otherRows := range 5 {
				for otherCols := range 5 {
					a, b := sized(rows, cols), sized(otherRows, otherCols)
					if rows == cols && rows == otherRows && rows == otherCols {
						if got := impl.MultiplyMatrices(a, b); !equalMatrices(got, multipliedExactly(a, b, rows)) {
							t.Errorf("MultiplyMatrices(%s, %s) = %s", inLine(a), inLine(b), inLine(got))
						}
						continue
					}
					checkMultiplyFails(t, fmt.Sprintf("%d rows of %d and %d rows of %d", rows, cols, otherRows, otherCols), a, b)
				}
			}
		}
	}
	if got := impl.MultiplyMatrices(sized(10, 10), sized(10, 10)); !equalMatrices(got, multipliedExactly(sized(10, 10), sized(10, 10), 10)) {
		t.Errorf("MultiplyMatrices of ten rows = %s", inLine(got))
	}
	checkMultiplyFails(t, "eleven rows", unitMatrix(11), unitMatrix(11))
	checkMultiplyFails(t, "ten rows and eleven", unitMatrix(10), unitMatrix(11))
	checkMultiplyFails(t, "eleven rows and ten", unitMatrix(11), unitMatrix(10))
	for _, spoiled := range [][][]impl.Rat{matrix("1 2", "3"), matrix("1", "3 4"), matrix("1 2 3", "4 5"), matrix("1 2", "3 4 5"), matrix("1 2", ""), nil} {
		checkMultiplyFails(t, "a is not square", spoiled, matrix("1 2", "3 4"))
		checkMultiplyFails(t, "b is not square", matrix("1 2", "3 4"), spoiled)
	}
}

// P18. With more limbs, some elements are too large.
func TestMultiplyMatricesOfRandomMatrices(t *testing.T) {
	r := rand.New(rand.NewSource(44))
	counts := map[bool]int{}
	for n := range 200 {
		size := 1 + n%6
		limbs := n / 6 % 10
		a, b, c := randomMatrix(r, size, size, limbs), randomMatrix(r, size, size, limbs), randomMatrix(r, size, size, 0)
		want := multipliedExactly(a, b, size)
		got := impl.MultiplyMatrices(a, b)
		if !equalMatrices(got, want) {
			t.Errorf("MultiplyMatrices(%s, %s) = %s, want %s", inLine(a), inLine(b), inLine(got), inLine(want))
		}
		counts[len(got) > 0]++
		if limbs > 0 {
			continue
		}
		if left, right := impl.MultiplyMatrices(got, c), impl.MultiplyMatrices(a, impl.MultiplyMatrices(b, c)); len(left) == 0 || !equalMatrices(left, right) {
			t.Errorf("the products of %s, %s and %s are %s and %s", inLine(a), inLine(b), inLine(c), inLine(left), inLine(right))
		}
		unit := unitMatrix(size)
		if !equalMatrices(impl.MultiplyMatrices(a, unit), a) || !equalMatrices(impl.MultiplyMatrices(unit, a), a) {
			t.Errorf("%s times the identity", inLine(a))
		}
	}
	if counts[true] < 50 || counts[false] < 50 {
		t.Errorf("the successes of MultiplyMatrices: %v", counts)
	}
}

// P18. The sum is that of the products from the first one to the last one.
func TestMultiplyMatricesAtTheLimit(t *testing.T) {
	nines := strings.Repeat("9", 216)
	eights := nines[1:] + "8"
	for _, c := range []struct {
		name string
		a, b [][]impl.Rat
		ok   bool
	}{
		{"the greatest element", matrix(nines), matrix("-1"), true},
		{"a product", matrix("1e108"), matrix("1e107"), true},
		{"a product", matrix("1e108"), matrix("1e108"), false},
		{"a negative product", matrix("-1e108"), matrix("1e108"), false},
		{"the denominator of a product", matrix("1e-108"), matrix("1e-107"), true},
		{"the denominator of a product", matrix("1e-108"), matrix("1e-108"), false},
		{"a product that is reduced", matrix(nines), matrix("1/" + nines), true},
		{"a sum", matrix("1 1", "0 0"), matrix(eights+" 0", "1 0"), true},
		{"a sum", matrix("1 1", "0 0"), matrix(nines+" 0", "1 0"), false},
		{"a sum in the last place", matrix("0 0", "1 1"), matrix("0 1", "0 "+nines), false},
		{"the denominator of a sum", matrix("1 1", "0 0"), matrix("1e-215 0", "1/11 0"), false},
		{"a sum on the way", matrix("1 1 1", "0 0 0", "0 0 0"), matrix(nines+" 0 0", "-1 0 0", "1 0 0"), true},
		{"a sum on the way", matrix("1 1 1", "0 0 0", "0 0 0"), matrix(nines+" 0 0", "1 0 0", "-1 0 0"), false},
		{"a sum on the way", matrix("1 1 1", "0 0 0", "0 0 0"), matrix("1 0 0", "-1 0 0", nines+" 0 0"), true},
		{"products whose sum is 0", matrix("1e108 1e108", "0 0"), matrix("1e108 0", "-1e108 0"), false},
	} {
		want := multipliedExactly(c.a, c.b, len(c.a))
		if got := impl.MultiplyMatrices(c.a, c.b); len(got) > 0 != c.ok || !equalMatrices(got, want) {
			t.Errorf("%s: MultiplyMatrices(%s, %s) = %s, want %s", c.name, inLine(c.a), inLine(c.b), inLine(got), inLine(want))
		}
	}
}

// P18. An element that is not valid is wrong also if it is multiplied by 0.
func TestMultiplyMatricesRejectsInvalidFractions(t *testing.T) {
	for _, m := range [][][]impl.Rat{matrix("1"), matrix("2 -1", "-1 2"), matrix("0 0", "0 0"), unitMatrix(3)} {
		placesIn(m, func(name string, spoiled [][]impl.Rat) {
			checkMultiplyFails(t, name+" of a", spoiled, m)
			checkMultiplyFails(t, name+" of b", m, spoiled)
			checkMultiplyFails(t, name+" of both", spoiled, spoiled)
		})
	}
}

// linkedNodes returns what NodesOf has to return for a link set.
func linkedNodes(set []impl.Link) []int {
	return slices.DeleteFunc([]int{1, 2, 3, 4, 5, 6, 7, 8, 9}, func(v int) bool { return len(linkedBy(set).of(v)) == 0 })
}

// informationExactly returns what InformationMatrix and InformationVectors have to return for a link set.
func informationExactly(set []impl.Link) ([][]impl.Rat, []impl.Rat, []impl.Rat) {
	nodes := linkedNodes(set)
	var m [][]impl.Rat
	var right, up []impl.Rat
	valid, fine := true, true
	for _, v := range nodes {
		row := fractions(strings.Repeat("0 ", len(nodes)))
		x, y := fraction("0"), fraction("0")
		for _, k := range set {
			if k.A != v && k.B != v {
				continue
			}
			add, other := (*big.Rat).Add, k.A
			if k.A == v {
				add, other = (*big.Rat).Sub, k.B
			}
			x = limited(add, x, limited((*big.Rat).Mul, k.Weight, k.DX))
			y = limited(add, y, limited((*big.Rat).Mul, k.Weight, k.DY))
			i := slices.Index(nodes, v)
			row[i] = limited((*big.Rat).Add, row[i], k.Weight)
			valid = valid && !isZeroRat(row[i])
			if j := slices.Index(nodes, other); j >= 0 {
				row[j] = limited((*big.Rat).Sub, fraction("0"), k.Weight)
			}
		}
		m = append(m, row)
		right, up = append(right, x), append(up, y)
		fine = fine && !isZeroRat(x) && !isZeroRat(y)
	}
	if !valid {
		m = nil
	}
	if !fine {
		right, up = nil, nil
	}
	return m, right, up
}

// checkInformation compares the matrix and the vectors with the computation of math/big, and reports whether they are not nil.
func checkInformation(t *testing.T, set []impl.Link) (bool, bool) {
	t.Helper()
	wantM, wantX, wantY := informationExactly(set)
	m := impl.InformationMatrix(set)
	if !equalMatrices(m, wantM) {
		t.Errorf("InformationMatrix(%v) = %s, want %s", set, inLine(m), inLine(wantM))
	}
	x, y := impl.InformationVectors(set)
	if !equalRats(x, wantX) || !equalRats(y, wantY) {
		t.Errorf("InformationVectors(%v) = %v, %v, want %v, %v", set, x, y, wantX, wantY)
	}
	return len(m) > 0, len(x) > 0
}

// P18.
func TestInformation(t *testing.T) {
	cases := []struct {
		name string
		set  []string
		m    [][]impl.Rat
		x, y string
	}{
		{"no links", nil, nil, "", ""},
		{"one link with node 0", []string{"0-1 2/3 5 -6"}, matrix("2/3"), "10/3", "-4"},
		{"one link with node 0 and the last node", []string{"0-9 3 1/2 0"}, matrix("3"), "3/2", "0"},
		{"one link without node 0", []string{"3-7 2 5 -1/2"}, matrix("2 -2", "-2 2"), "-10 10", "1 -1"},
		{"a triangle", []string{"0-1 1 0 0", "0-2 1 7 0", "1-2 1 4 0"}, matrix("2 -1", "-1 2"), "-4 11", "0 0"},
		{"a node with links on both sides", []string{"0-4 1 1 2", "2-4 2 -1 0", "4-9 3 5 7"}, matrix("2 -2 0", "-2 6 -3", "0 -3 3"), "2 -16 15", "0 -19 21"},
		{"only node 0 is linked", []string{"0-2 1 1 1", "0-5 2 3 -4", "0-8 1/2 0 1"}, matrix("1 0 0", "0 2 0", "0 0 1/2"), "1 6 0", "1 -8 1/2"},
		{"two components", []string{"0-1 1 1 1", "2-3 5 2 -3"}, matrix("1 0 0", "0 5 -5", "0 -5 5"), "1 -10 10", "1 15 -15"},
		{"terms that cancel each other", []string{"0-1 2 3 1", "1-2 3 2 1"}, matrix("5 -3", "-3 3"), "0 6", "-1 3"},
	}
	for _, c := range cases {
		set := links(c.set...)
		if got := impl.InformationMatrix(set); !equalMatrices(got, c.m) {
			t.Errorf("%s: InformationMatrix = %s, want %s", c.name, inLine(got), inLine(c.m))
		}
		if x, y := impl.InformationVectors(set); !equalRats(x, fractions(c.x)) || !equalRats(y, fractions(c.y)) {
			t.Errorf("%s: InformationVectors = %v, %v, want %s and %s", c.name, x, y, c.x, c.y)
		}
		checkInformation(t, set)
	}
	if x, y := impl.InformationVectors([]impl.Link{}); len(impl.InformationMatrix([]impl.Link{})) > 0 || len(x) > 0 || len(y) > 0 {
		t.Error("an empty list has a matrix or vectors")
	}
}

// P18.
func TestInformationOfEverySmallSet(t *testing.T) {
	for _, set := range everySmallSet() {
		if isMatrix, isVector := checkInformation(t, set); isMatrix != (len(set) > 0) || isVector != isMatrix {
			t.Errorf("the information of %s: %v, %v", pairsIn(set), isMatrix, isVector)
		}
	}
	for _, k := range allLinks() {
		checkInformation(t, []impl.Link{k})
	}
	for v := range 10 {
		checkInformation(t, starOfNine(v))
	}
	checkInformation(t, allLinks())
}

// P18. With more limbs, some sums are too large.
func TestInformationOfRandomSets(t *testing.T) {
	r := rand.New(rand.NewSource(45))
	counts := map[[2]bool]int{}
	for n := range 150 {
		set := randomSet(r, 5+n%40)
		for i, k := range set {
			set[i] = randomLink(r, k.A, k.B, 1+n%9)
		}
		isMatrix, isVector := checkInformation(t, set)
		counts[[2]bool{isMatrix, isVector}]++
	}
	if counts[[2]bool{true, true}] < 10 || counts[[2]bool{true, false}] < 10 || counts[[2]bool{false, false}] < 10 {
		t.Errorf("the successes of InformationMatrix and InformationVectors: %v", counts)
	}
}

// quadratic returns x * m * x - 2 * b * x.
func quadratic(m [][]impl.Rat, b []impl.Rat, x []*big.Rat) *big.Rat {
	sum := new(big.Rat)
	for i, row := range m {
		for j, r := range row {
			term := new(big.Rat).Mul(x[i], x[j])
			sum.Add(sum, term.Mul(term, quotientOf(r)))
		}
		term := new(big.Rat).Mul(x[i], quotientOf(b[i]))
		sum.Sub(sum, term.Add(term, term))
	}
	return sum
}

// P18. The matrix and the vectors have the energy of the links, but for a constant: the energy with all nodes at the origin.
func TestInformationHasTheEnergy(t *testing.T) {
	r := rand.New(rand.NewSource(46))
	for n := range 60 {
		set, _, _ := impl.JoinLinks(randomLinks(r, 2+n%9, 1+n))
		at := randomPoints(r)
		at[0] = point("0", "0")
		m := impl.InformationMatrix(set)
		right, up := impl.InformationVectors(set)
		var x, y []*big.Rat
		for _, v := range impl.NodesOf(set) {
			x, y = append(x, quotientOf(at[v].X)), append(y, quotientOf(at[v].Y))
		}
		want := totalAt(t, set, at)
		want.Sub(want, totalAt(t, set, slices.Repeat([]impl.Point{point("0", "0")}, 10)))
		got := quadratic(m, right, x)
		if got.Add(got, quadratic(m, up, y)).Cmp(want) != 0 {
			t.Errorf("with %s, %v and %v, the energy of %v is %v instead of %v", inLine(m), right, up, set, got, want)
		}
	}
}

// P18. In each group of cases, one sum is just valid and then just too large.
func TestInformationAtTheLimit(t *testing.T) {
	nines := strings.Repeat("9", 216)
	eights := nines[1:] + "8"
	for _, c := range []struct {
		name               string
		set                []string
		isMatrix, isVector bool
	}{
		{"one great weight", []string{"0-1 " + nines + " 0 0"}, true, true},
		{"one great weight between two nodes", []string{"1-2 " + nines + " 1 -1"}, true, true},
		{"a sum of weights", []string{"0-1 " + eights + " 0 0", "1-2 1 0 0"}, true, true},
		{"a sum of weights", []string{"0-1 " + nines + " 0 0", "1-2 1 0 0"}, false, true},
		{"a sum of weights of the last node", []string{"0-1 1 0 0", "1-9 1 0 0", "8-9 " + nines + " 0 0"}, false, true},
		{"a sum of weights of node 0, which has no row", []string{"0-1 " + nines + " 0 0", "0-2 1 0 0"}, true, true},
		{"the denominator of a sum of weights", []string{"0-1 1e-215 0 0", "1-2 1/11 0 0"}, false, true},
		{"a product in DX", []string{"0-1 1e108 1e107 0"}, true, true},
		{"a product in DX", []string{"0-1 1e108 1e108 0"}, true, false},
		{"a product in DX of A", []string{"1-2 1e108 -1e108 0"}, true, false},
		{"a product in DY", []string{"0-1 1e108 0 1e107"}, true, true},
		{"a product in DY", []string{"0-1 1e108 0 -1e108"}, true, false},
		{"the denominator of a product", []string{"0-1 1e-108 1e-108 0"}, true, false},
		{"a product of the last link", []string{"0-1 1 1 1", "0-2 1 1 1", "8-9 1e108 0 1e108"}, true, false},
		{"a sum in DX", []string{"0-1 1 " + eights + " 0", "1-2 1 -1 0"}, true, true},
		{"a sum in DX", []string{"0-1 1 " + nines + " 0", "1-2 1 -1 0"}, true, false},
		{"a sum in DX that is a difference", []string{"0-1 1 " + nines + " 0", "1-2 1 1 0"}, true, true},
		{"a sum in DY", []string{"0-2 1 0 " + eights, "1-2 1 0 1"}, true, true},
		{"a sum in DY", []string{"0-2 1 0 " + nines, "1-2 1 0 1"}, true, false},
		{"a sum in DX of node 0, which has no row", []string{"0-1 1 " + nines + " 0", "0-2 1 1 0"}, true, true},
		{"the denominator of a sum in DX", []string{"0-1 1 1e-215 0", "1-2 1 1/11 0"}, true, false},
		{"a sum on the way", []string{"0-3 1 " + nines + " 0", "1-3 1 -1 0", "2-3 1 1 0"}, true, true},
		{"a sum on the way", []string{"0-3 1 " + nines + " 0", "1-3 1 1 0", "2-3 1 -1 0"}, true, false},
		{"a sum on the way from A to B", []string{"0-1 1 " + nines + " 0", "1-2 1 -1 0", "1-3 1 1 0"}, true, false},
		{"both", []string{"0-1 " + nines + " 2 0", "1-2 1 0 0"}, false, false},
	} {
		if isMatrix, isVector := checkInformation(t, links(c.set...)); isMatrix != c.isMatrix || isVector != c.isVector {
			t.Errorf("%s: the successes of InformationMatrix and InformationVectors: %v, %v", c.name, isMatrix, isVector)
		}
	}
}

// P18. The sum of the weights is 4 in any order, but in some orders it is too large on the way.
func TestInformationThatIsTooLargeOnTheWay(t *testing.T) {
	p, _ := new(big.Int).SetString("5"+strings.Repeat("0", 107)+"1", 10)
	weights := sharesApart(p)
	for _, c := range []struct {
		order [4]int
		want  bool
	}{
		{[4]int{0, 2, 1, 3}, true}, {[4]int{3, 1, 2, 0}, true}, {[4]int{0, 1, 2, 3}, false}, {[4]int{2, 3, 0, 1}, false},
	} {
		var set []impl.Link
		for i, node := range []int{0, 2, 6, 9} {
			zero := fraction("0")
			set = append(set, impl.Link{A: min(node, 5), B: max(node, 5), Weight: weights[c.order[i]], DX: zero, DY: zero})
		}
		if isMatrix, isVector := checkInformation(t, set); isMatrix != c.want || !isVector {
			t.Errorf("the information of the weights in the order %v: %v, %v", c.order, isMatrix, isVector)
		}
		checkDenseExactly(t, set)
	}
}

func checkDenseFails(t *testing.T, name string, set []impl.Link) {
	t.Helper()
	if at, ok := impl.DenseSolution(set); ok || len(at) > 0 {
		t.Errorf("%s: DenseSolution(%v) = %v, %v", name, set, at, ok)
	}
	if m, ok := impl.DenseCovariance(set); ok || len(m) > 0 {
		t.Errorf("%s: DenseCovariance(%v) = %s, %v", name, set, inLine(m), ok)
	}
}

// P5, P18.
func TestDenseSolution(t *testing.T) {
	o := point("0", "0")
	cases := []struct {
		name string
		set  []string
		want []impl.Point
	}{
		{"no links", nil, []impl.Point{o}},
		{"one link", []string{"0-1 2/3 5 -6"}, []impl.Point{o, point("5", "-6")}},
		{"one link to the last node", []string{"0-9 7 1/2 3"}, []impl.Point{o, {}, {}, {}, {}, {}, {}, {}, {}, point("1/2", "3")}},
		{"a triangle", []string{"0-1 1 0 0", "0-2 1 7 0", "1-2 1 4 0"}, []impl.Point{o, point("1", "0"), point("6", "0")}},
		{"numbers that no link has", []string{"0-2 1 1 2", "2-5 3 4 -1", "5-6 1/2 0 1"}, []impl.Point{o, {}, point("1", "2"), {}, {}, point("5", "1"), point("5", "2")}},
		{"a node at the origin", []string{"0-2 1 0 0", "0-4 1 1 0"}, []impl.Point{o, {}, o, {}, point("1", "0")}},
		{"all links to the greatest node", []string{"0-3 1 4 0", "1-3 2 1 1", "2-3 5 -1 0"}, []impl.Point{o, point("3", "-1"), point("5", "0"), point("4", "0")}},
		{"links with weights", []string{"0-1 3 0 8", "0-2 1 0 0", "1-2 1 8 0"}, []impl.Point{o, point("-8/7", "48/7"), point("24/7", "24/7")}},
	}
	for _, c := range cases {
		set := links(c.set...)
		if got, ok := impl.DenseSolution(set); !ok || !equalPoints(got, c.want) {
			t.Errorf("%s: DenseSolution = %v, %v, want %v", c.name, got, ok, c.want)
		}
	}
	if got, ok := impl.DenseSolution([]impl.Link{}); !ok || !equalPoints(got, []impl.Point{o}) {
		t.Errorf("DenseSolution of an empty list = %v, %v", got, ok)
	}
}

// P18.
func TestDenseCovariance(t *testing.T) {
	cases := []struct {
		name string
		set  []string
		want [][]impl.Rat
	}{
		{"no links", nil, nil},
		{"one link", []string{"0-1 2/3 5 -6"}, matrix("3/2")},
		{"one link to the last node", []string{"0-9 7 1/2 3"}, matrix("1/7")},
		{"a triangle", []string{"0-1 1 0 0", "0-2 1 7 0", "1-2 1 4 0"}, matrix("2/3 1/3", "1/3 2/3")},
		{"a chain", []string{"0-2 1 1 2", "2-5 3 4 -1", "5-6 1/2 0 1"}, matrix("1 1 1", "1 4/3 4/3", "1 4/3 10/3")},
		{"a star", []string{"0-2 1 0 0", "0-4 2 1 0"}, matrix("1 0", "0 1/2")},
	}
	for _, c := range cases {
		set := links(c.set...)
		if got, ok := impl.DenseCovariance(set); !ok || !equalMatrices(got, c.want) {
			t.Errorf("%s: DenseCovariance = %s, %v, want %s", c.name, inLine(got), ok, inLine(c.want))
		}
	}
	if got, ok := impl.DenseCovariance([]impl.Link{}); !ok || len(got) > 0 {
		t.Errorf("DenseCovariance of an empty list = %s, %v", inLine(got), ok)
	}
}

// P5, P18. There is a solution exactly if the set is grounded.
func TestDenseSolutionOfEverySmallSet(t *testing.T) {
	for _, set := range everySmallSet() {
		connected := linkedBy(set).connected()
		nodes := linkedNodes(set)
		if slices.ContainsFunc(nodes, func(v int) bool { return !connected[0][v] }) {
			checkDenseFails(t, "not grounded", set)
			continue
		}
		checkDense(t, set, nodes)
	}
}

// checkDense compares the solution and the covariance of a grounded set with their equations.
func checkDense(t *testing.T, set []impl.Link, nodes []int) {
	t.Helper()
	m, right, up := informationExactly(set)
	at, ok := impl.DenseSolution(set)
	if !ok || len(at) != slices.Max(append([]int{0}, nodes...))+1 || !equalPoint(at[0], point("0", "0")) {
		t.Fatalf("DenseSolution(%v) = %v, %v", set, at, ok)
	}
	var x, y []impl.Rat
	for v := 1; v < len(at); v++ {
		if slices.Contains(nodes, v) {
			x, y = append(x, at[v].X), append(y, at[v].Y)
		} else if !equalPoint(at[v], impl.Point{}) {
			t.Errorf("DenseSolution(%s) puts %d at %v", pairsIn(set), v, at[v])
		}
	}
	if !isSolved(m, x, right) || !isSolved(m, y, up) {
		t.Errorf("DenseSolution(%v) = %v", set, at)
	}
	covariance, ok := impl.DenseCovariance(set)
	if !ok {
		t.Fatalf("DenseCovariance(%v) fails", set)
	}
	checkInverse(t, m, covariance)
}

// P5. The positions have the least energy: the links pull no node away from them, and elimination leads to the same. The
// variance of a node is the inverse of the weight of the link that is left when all others are eliminated.
func TestDenseSolutionHasTheLeastEnergy(t *testing.T) {
	r := rand.New(rand.NewSource(47))
	for n := range 40 {
		set := groundedSet(r, 2+n%9, n/2)
		nodes := impl.NodesOf(set)
		checkDense(t, set, nodes)
		at, _ := impl.DenseSolution(set)
		eliminated, _ := solvedBy(t, set, nodes)
		if !equalPoints(at, eliminated[:len(at)]) || !isBalanced(set, at) {
			t.Errorf("DenseSolution(%v) = %v, want %v", set, at, eliminated)
		}
		covariance, _ := impl.DenseCovariance(set)
		for i, v := range nodes {
			rest := set
			for _, other := range nodes {
				if other != v {
					_, rest, _, _ = impl.ReduceNode(rest, other)
				}
			}
			if len(rest) != 1 || !sameRat(covariance[i][i], limited((*big.Rat).Quo, fraction("1"), rest[0].Weight)) {
				t.Errorf("the variance of %d is %v, but %v is left of %v", v, covariance[i][i], rest, set)
			}
			for j := range nodes {
				if !sameRat(covariance[i][j], covariance[j][i]) {
					t.Errorf("DenseCovariance(%v) = %s", set, inLine(covariance))
				}
			}
		}
	}
}

// solutionExactly returns what DenseSolution has to return for a link set that is not empty.
func solutionExactly(set []impl.Link) ([]impl.Point, bool) {
	m, right, up := informationExactly(set)
	if len(m) == 0 || len(right) == 0 {
		return nil, false
	}
	wide := copiedMatrix(m)
	for i := range wide {
		wide[i] = append(wide[i], right[i], up[i])
	}
	reduced, ok := gaussJordanExactly(wide)
	if !ok {
		return nil, false
	}
	nodes := linkedNodes(set)
	at := make([]impl.Point, nodes[len(nodes)-1]+1)
	at[0] = point("0", "0")
	for i, v := range nodes {
		at[v] = impl.Point{X: reduced[i][len(m)], Y: reduced[i][len(m)+1]}
	}
	return at, true
}

// covarianceExactly returns what DenseCovariance has to return for a link set that is not empty.
func covarianceExactly(set []impl.Link) ([][]impl.Rat, bool) {
	m, _, _ := informationExactly(set)
	if len(m) == 0 {
		return nil, false
	}
	reduced, ok := gaussJordanExactly(beside(m, unitMatrix(len(m))))
	for i, row := range reduced {
		reduced[i] = row[len(m):]
	}
	return reduced, ok
}

// checkDenseExactly compares with the computation of math/big, and reports whether there are a solution and a covariance.
func checkDenseExactly(t *testing.T, set []impl.Link) (bool, bool) {
	t.Helper()
	wantAt, wantOk := solutionExactly(set)
	at, ok := impl.DenseSolution(set)
	if ok != wantOk || !equalPoints(at, wantAt) {
		t.Errorf("DenseSolution(%v) = %v, %v, want %v, %v", set, at, ok, wantAt, wantOk)
	}
	want, wantFine := covarianceExactly(set)
	m, fine := impl.DenseCovariance(set)
	if fine != wantFine || !equalMatrices(m, want) {
		t.Errorf("DenseCovariance(%v) = %s, %v, want %s, %v", set, inLine(m), fine, inLine(want), wantFine)
	}
	return ok, fine
}

// P18. With more limbs, some fractions are too large.
func TestDenseSolutionOfRandomSets(t *testing.T) {
	r := rand.New(rand.NewSource(48))
	counts := map[[2]bool]int{}
	for n := range 200 {
		set := groundedSet(r, 2+n%4, n/20)
		for i, k := range set {
			set[i] = randomLink(r, k.A, k.B, 1+n/4%8)
		}
		ok, fine := checkDenseExactly(t, set)
		counts[[2]bool{ok, fine}]++
	}
	if counts[[2]bool{true, true}] < 30 || counts[[2]bool{false, true}] < 10 || counts[[2]bool{false, false}] < 30 {
		t.Errorf("the successes of DenseSolution and DenseCovariance: %v", counts)
	}
}

// P18. In each group of cases, one fraction is just valid and then just too large.
func TestDenseSolutionAtTheLimit(t *testing.T) {
	nines := strings.Repeat("9", 216)
	eights := nines[1:] + "8"
	for _, c := range []struct {
		name     string
		set      []string
		ok, fine bool
	}{
		{"one great link", []string{"0-1 " + nines + " 1 -1"}, true, true},
		{"one long link", []string{"0-1 1 " + nines + " -" + nines}, true, true},
		{"one link with a great denominator", []string{"0-1 1/" + nines + " 1 -1"}, true, true},
		{"the matrix", []string{"0-1 " + nines + " 0 0", "1-2 1 0 0"}, false, false},
		{"the matrix in the last place", []string{"0-1 1 0 0", "0-9 1 0 0", "8-9 " + nines + " 0 0"}, false, false},
		{"the vector in X", []string{"0-1 1e108 1e108 0"}, false, true},
		{"the vector in Y", []string{"0-1 1e108 0 1e108"}, false, true},
		{"the vector in X, of the last node", []string{"0-1 1 1 1", "1-9 1e108 1e108 0"}, false, false},
		{"the matrix and the vectors", []string{"0-1 " + nines + " 2 2", "1-2 1 0 0"}, false, false},
		{"the rows", []string{"0-1 1 0 0", "1-2 1e107 0 0"}, true, true},
		{"the rows", []string{"0-1 1 0 0", "1-2 1e108 0 0"}, false, false},
		{"the solution in X", []string{"0-1 1 " + eights + " 0", "1-2 1 1 0"}, true, true},
		{"the solution in X", []string{"0-1 1 " + nines + " 0", "1-2 1 1 0"}, false, true},
		{"the solution in Y", []string{"0-1 1 0 -" + eights, "1-2 1 0 -1"}, true, true},
		{"the solution in Y", []string{"0-1 1 0 -" + nines, "1-2 1 0 -1"}, false, true},
		{"the covariance", []string{"0-1 1e-107 0 0", "1-2 1 0 0"}, true, true},
		{"the covariance", []string{"0-1 1e-108 0 0", "1-2 1 0 0"}, true, false},
		{"the covariance of great weights", []string{"0-1 1e107 0 0", "1-2 1e107 0 0"}, true, true},
		{"the covariance of great weights", []string{"0-1 " + eights + " 0 0", "1-2 1 0 0"}, true, false},
	} {
		ok, fine := checkDenseExactly(t, links(c.set...))
		if ok != c.ok || fine != c.fine {
			t.Errorf("%s: the successes of DenseSolution and DenseCovariance: %v, %v", c.name, ok, fine)
		}
	}
}

// P18.
func TestDenseFunctionsRejectSetsThatAreNotGrounded(t *testing.T) {
	for _, set := range [][]impl.Link{
		pairSet("1-2"), pairSet("8-9"), pairSet("1-2", "1-3", "2-3"), pairSet("0-1", "2-3"), pairSet("0-9", "1-2", "2-3", "8-9"),
		pairSet("0-1", "0-2", "1-2", "3-4", "3-5", "4-5"), slices.DeleteFunc(allLinks(), func(k impl.Link) bool { return k.A == 0 }),
	} {
		checkDenseFails(t, "not grounded", set)
		// There is a matrix, but the system has no solution.
		if isMatrix, isVector := checkInformation(t, set); !isMatrix || !isVector {
			t.Errorf("the information of %s: %v, %v", pairsIn(set), isMatrix, isVector)
		}
	}
}

func checkNoInformation(t *testing.T, name string, l []impl.Link) {
	t.Helper()
	if got := impl.InformationMatrix(l); len(got) > 0 {
		t.Errorf("%s: InformationMatrix(%v) = %s", name, l, inLine(got))
	}
	if x, y := impl.InformationVectors(l); len(x) > 0 || len(y) > 0 {
		t.Errorf("%s: InformationVectors(%v) = %v, %v", name, l, x, y)
	}
	checkDenseFails(t, name, l)
}

// P18.
func TestDenseFunctionsRejectListsThatAreNoLinkSets(t *testing.T) {
	for name, l := range noLinkSets() {
		checkNoInformation(t, name, l)
	}
}

// guardedRats returns l at the front of a longer array of guarded fractions, that array, and all arrays of limbs.
func guardedRats(l []impl.Rat) ([]impl.Rat, []impl.Rat, [][]int) {
	var whole []impl.Rat
	var limbs [][]int
	for _, r := range append(slices.Clone(l), fraction("5/7"), fraction("-8")) {
		r, more := guarded(r)
		whole = append(whole, r)
		limbs = append(limbs, more...)
	}
	return whole[:len(l)], whole, limbs
}

// guardedMatrix is a matrix at the front of longer arrays: that of its rows, those of their elements, and those of limbs.
type guardedMatrix struct {
	matrix   [][]impl.Rat
	rows     [][]impl.Rat
	elements [][]impl.Rat
	limbs    [][]int
}

func guardMatrix(m [][]impl.Rat) guardedMatrix {
	var g guardedMatrix
	for _, row := range append(slices.Clone(m), fractions("1 2 3"), fractions("4 5 6")) {
		row, whole, more := guardedRats(row)
		g.rows = append(g.rows, row)
		g.elements = append(g.elements, whole)
		g.limbs = append(g.limbs, more...)
	}
	g.matrix = g.rows[:len(m)]
	return g
}

func (g guardedMatrix) copied() guardedMatrix {
	return guardedMatrix{rows: slices.Clone(g.rows), elements: copiedMatrix(g.elements), limbs: cloneRows(g.limbs)}
}

func (g guardedMatrix) isAsBefore(before guardedMatrix) bool {
	sameRow := func(a, b []impl.Rat) bool { return len(a) == len(b) && (len(a) == 0 || &a[0] == &b[0]) }
	return sameRows(g.limbs, before.limbs) && equalMatrices(g.elements, before.elements) && slices.EqualFunc(g.rows, before.rows, sameRow)
}

// spoilRats writes over all memory of the lists of a result, and reports whether they and their rows of limbs are apart.
func spoilRats(lists [][]impl.Rat) bool {
	var limbs [][]int
	for _, l := range lists {
		for _, r := range l {
			limbs = append(limbs, r.Num.Mag, r.Den)
		}
	}
	apart := spoilRows(limbs)
	for i, l := range lists {
		before := copiedMatrix(lists[i+1:])
		clear(l[:cap(l)])
		apart = apart && equalMatrices(lists[i+1:], before)
	}
	clear(lists[:cap(lists)])
	return apart
}

// matrixCall is a call of a function of matrices, of which only the memory of its results matters.
type matrixCall struct {
	name string
	run  func(m, other [][]impl.Rat) [][]impl.Rat
}

func firstRow(m [][]impl.Rat) []impl.Rat {
	if len(m) == 0 {
		return nil
	}
	return m[0]
}

func matrixCalls() []matrixCall {
	return []matrixCall{
		{"IsMatrix", func(m, _ [][]impl.Rat) [][]impl.Rat {
			impl.IsMatrix(m, len(firstRow(m)))
			return nil
		}},
		{"ReduceRows", func(m, _ [][]impl.Rat) [][]impl.Rat {
			rows, _ := impl.ReduceRows(m, len(firstRow(m)))
			return rows
		}},
		{"SolveSystem", func(m, other [][]impl.Rat) [][]impl.Rat {
			x, _ := impl.SolveSystem(m, firstRow(other))
			return [][]impl.Rat{x}
		}},
		{"InvertMatrix", func(m, _ [][]impl.Rat) [][]impl.Rat {
			rows, _ := impl.InvertMatrix(m)
			return rows
		}},
		{"MultiplyMatrices", impl.MultiplyMatrices},
	}
}

// Chapter 1: arguments and the capacity behind them stay as they are, and results share no memory with them or with each
// other. The first matrices are those for which a function could return an argument itself.
func TestMatrixMemory(t *testing.T) {
	matrices := [][][]impl.Rat{
		nil, matrix("1"), unitMatrix(2), matrix("1 0 5 0", "0 1 0 7"), matrix("0 1", "1 0"), matrix("0 2 1", "3 0 0"), matrix("2 -1", "-1 2"), matrix("0 0 2", "0 3 0", "5 1 0"),
		unitMatrix(10), matrix("1 2", "2 4"), matrix("0"), matrix("0 0", "0 0"), matrix("1 1e108", "1e108 1"), matrix("1 x", "0 1"), matrix("1 2", "3"), matrix("", ""), unitMatrix(11),
	}
	for _, call := range matrixCalls() {
		for _, m := range matrices {
			for _, other := range matrices {
				first, second := guardMatrix(m), guardMatrix(other)
				firstBefore, secondBefore := first.copied(), second.copied()
				if !spoilRats(call.run(first.matrix, second.matrix)) {
					t.Fatalf("%s(%s, %s): slices of the result share memory", call.name, inLine(m), inLine(other))
				}
				if !first.isAsBefore(firstBefore) || !second.isAsBefore(secondBefore) {
					t.Fatalf("%s(%s, %s): the arguments are changed", call.name, inLine(m), inLine(other))
				}
			}
		}
	}
}

// P18. One row, or one fraction, may stand in several places of the arguments.
func TestMatricesWithMemoryInCommon(t *testing.T) {
	one, zero := fraction("1"), fraction("0")
	shared := [][]impl.Rat{{zero, one, one}, {one, zero, one}, {one, one, zero}}
	inverse, ok := impl.InvertMatrix(shared)
	if want := matrix("-1/2 1/2 1/2", "1/2 -1/2 1/2", "1/2 1/2 -1/2"); !ok || !equalMatrices(inverse, want) {
		t.Errorf("InvertMatrix(%s) = %s, %v", inLine(shared), inLine(inverse), ok)
	}
	if got := impl.MultiplyMatrices(shared, shared); !equalMatrices(got, matrix("2 1 1", "1 2 1", "1 1 2")) {
		t.Errorf("the square of %s is %s", inLine(shared), inLine(got))
	}
	if x, ok := impl.SolveSystem(shared, shared[1]); !ok || !equalRats(x, fractions("0 1 0")) {
		t.Errorf("SolveSystem(%s) of its second row = %v, %v", inLine(shared), x, ok)
	}
	row := fractions("1 2")
	twice := [][]impl.Rat{row, row}
	checkReduceRowsFails(t, "one row twice", twice, 2)
	checkInvertFails(t, "one row twice", twice)
	if got := impl.MultiplyMatrices(twice, twice); !equalMatrices(got, matrix("3 6", "3 6")) {
		t.Errorf("the square of %s is %s", inLine(twice), inLine(got))
	}
	if !equalMatrices(twice, matrix("1 2", "1 2")) || !equalMatrices(shared, matrix("0 1 1", "1 0 1", "1 1 0")) {
		t.Errorf("the arguments become %s and %s", inLine(twice), inLine(shared))
	}
}

// setCall is a call of a function of link sets, of which only the memory of its results matters.
type setCall struct {
	name string
	run  func(set []impl.Link) [][]impl.Rat
}

func setCalls() []setCall {
	return []setCall{
		{"InformationMatrix", impl.InformationMatrix},
		{"InformationVectors", func(set []impl.Link) [][]impl.Rat {
			x, y := impl.InformationVectors(set)
			return [][]impl.Rat{x, y}
		}},
		{"DenseSolution", func(set []impl.Link) [][]impl.Rat {
			at, _ := impl.DenseSolution(set)
			var lists [][]impl.Rat
			for _, p := range at {
				lists = append(lists, []impl.Rat{p.X, p.Y})
			}
			clear(at[:cap(at)])
			return lists
		}},
		{"DenseCovariance", func(set []impl.Link) [][]impl.Rat {
			m, _ := impl.DenseCovariance(set)
			return m
		}},
	}
}

// Chapter 1, as above.
func TestDenseMemory(t *testing.T) {
	sets := [][]impl.Link{
		nil, pairSet("0-1"), links("0-1 1 1 1"), pairSet("1-9"), links("0-1 1 0 0", "0-2 1 7 0", "1-2 1 4 0"), links("0-2 1 0 0", "2-5 1 4 0", "5-9 1 1 1"),
		starOfNine(0), starOfNine(9), allLinks(), pairSet("1-2", "0-1"), pairSet("0-1", "0-1"), links("0-1 1 0 0", "1-2 0 0 0"),
		links("0-1 1 0 0", "1-2 1e108 0 0"), links("0-1 1e108 1e108 0"),
	}
	for _, call := range setCalls() {
		for _, set := range sets {
			list, whole, rows := guardedLinks(set)
			before, linksBefore := cloneRows(rows), slices.Clone(whole)
			if !spoilRats(call.run(list)) {
				t.Fatalf("%s(%s): slices of the result share memory", call.name, pairsIn(set))
			}
			if !sameRows(rows, before) || !equalLinks(whole, linksBefore) {
				t.Fatalf("%s(%s): the arguments are changed", call.name, pairsIn(set))
			}
		}
	}
}

// Chapter 1: no state is kept between calls, even if the results of earlier calls are written over.
func TestDenseStateIsNotKept(t *testing.T) {
	set, m := allLinks(), matrix("0 2 1", "3 0 0", "1 1 1")
	for range 3 {
		checkInformation(t, set)
		checkDense(t, set, []int{1, 2, 3, 4, 5, 6, 7, 8, 9})
		checkReduce(t, m, 3)
		if got, ok := impl.SolveSystem(m, m[0]); !ok || !isSolved(m, got, m[0]) {
			t.Errorf("SolveSystem = %v, %v", got, ok)
		}
		if got, ok := impl.InvertMatrix(m); !ok || !equalMatrices(impl.MultiplyMatrices(got, m), unitMatrix(3)) {
			t.Errorf("InvertMatrix = %s, %v", inLine(got), ok)
		}
		for _, call := range setCalls() {
			spoilRats(call.run(set))
		}
		for _, call := range matrixCalls() {
			spoilRats(call.run(m, m))
		}
	}
}
