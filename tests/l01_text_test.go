package tests

import (
	"bytes"
	"fmt"
	"math"
	"math/big"
	"regexp"
	"slices"
	"strings"
	"testing"

	"loop.example/g00810/impl"
)

// textsOver returns all texts of at most length pieces, each piece one of those given.
func textsOver(length int, pieces ...string) []string {
	all := []string{""}
	longest := all
	for range length {
		var next []string
		for _, s := range longest {
			for _, p := range pieces {
				next = append(next, s+p)
			}
		}
		all = append(all, next...)
		longest = next
	}
	return all
}

// sampleInts returns small ints, the ends of the range, and the neighbours of all powers of 2 and of 10.
func sampleInts() []int {
	var l []int
	for n := -1200; n <= 1200; n++ {
		l = append(l, n)
	}
	for d := range 3 {
		l = append(l, math.MaxInt-d, math.MinInt+d)
	}
	for _, base := range []int{2, 10} {
		for p := 1; p <= math.MaxInt/base; p *= base {
			for d := -1; d <= 1; d++ {
				l = append(l, p+d, -p-d)
			}
		}
	}
	return l
}

// textForm is a pair of functions between values and their texts.
type textForm[T any] struct {
	format func(x T) string
	parse  func(s string) (T, bool)
	same   func(x, y T) bool
}

// check reports x and its text if one of the two does not give the other.
func (f textForm[T]) check(t *testing.T, x T, text string) {
	t.Helper()
	if got := f.format(x); got != text {
		t.Errorf("the text of %v is %q, want %q", x, got, text)
	}
	if got, ok := f.parse(text); !ok || !f.same(got, x) {
		t.Errorf("%q is read as %v, %v, want %v, true", text, got, ok, x)
	}
}

// checkRejects reports the texts that are read as a value, or of which something is left beside a false.
func (f textForm[T]) checkRejects(t *testing.T, texts []string) {
	t.Helper()
	var zero T
	for _, s := range texts {
		if x, ok := f.parse(s); ok || !f.same(x, zero) {
			t.Errorf("%q is read as %v, %v, want the zero value, false", s, x, ok)
		}
	}
}

// P1, P18.
func TestFormatInt(t *testing.T) {
	cases := map[int]string{
		0:               "0",
		7:               "7",
		-5:              "-5",
		10:              "10",
		-10:             "-10",
		1000000000:      "1000000000",
		math.MaxInt:     "9223372036854775807",
		math.MinInt:     "-9223372036854775808",
		math.MinInt + 1: "-9223372036854775807",
	}
	for n, want := range cases {
		if got := impl.FormatInt(n); got != want {
			t.Errorf("FormatInt(%d) = %q, want %q", n, got, want)
		}
	}
	for _, n := range sampleInts() {
		if got, want := impl.FormatInt(n), big.NewInt(int64(n)).String(); got != want {
			t.Errorf("FormatInt(%d) = %q, want %q", n, got, want)
		}
	}
}

// P1.
func TestIntsAreRecoveredFromTheirText(t *testing.T) {
	for _, n := range sampleInts() {
		if got, ok := impl.ParseInt(impl.FormatInt(n)); got != n || !ok {
			t.Errorf("ParseInt(FormatInt(%d)) = %d, %v", n, got, ok)
		}
	}
}

// P1.
func TestLawsOfIntsInText(t *testing.T) {
	samples := []int{0, 1, -1, 9, 10, -99, 12345, -1000000, 2147483647, -2147483648}
	for _, a := range samples {
		for _, b := range samples {
			n, ok := impl.ParseInt(impl.FormatInt(a))
			m, alsoOk := impl.ParseInt(impl.FormatInt(b))
			if !ok || !alsoOk {
				t.Fatalf("%d or %d is not recovered", a, b)
			}
			if got, want := impl.FormatInt(n+m), bigText((*big.Int).Add, a, b); got != want {
				t.Errorf("%d + %d = %q, want %q", a, b, got, want)
			}
			if got, want := impl.FormatInt(n*m), bigText((*big.Int).Mul, a, b); got != want {
				t.Errorf("%d * %d = %q, want %q", a, b, got, want)
			}
			if (impl.FormatInt(a) == impl.FormatInt(b)) != (a == b) {
				t.Errorf("the texts of %d and %d do not tell them apart", a, b)
			}
		}
	}
}

func bigText(op func(z, x, y *big.Int) *big.Int, a int, b int) string {
	return op(new(big.Int), big.NewInt(int64(a)), big.NewInt(int64(b))).String()
}

// P1, P18.
func TestParseIntRejects(t *testing.T) {
	invalid := []string{
		"", "-", "+", "--", "-+", "+5", "+0", "-0", "00", "-00", "07", "-07", "000000000000000000000000000001",
		" ", " 5", "5 ", "5\n", "\n5", "- 5", "5-", "--5", "-+5", "+-5", "1-2",
		"1_000", "1,000", "1.0", "1e3", "0x10", "0b1", "0o7", "abc", "5a", "a5", "inf", "NaN",
		"9223372036854775808", "-9223372036854775809", "9223372036854775817", "10000000000000000000",
		"-10000000000000000000", "18446744073709551615", "18446744073709551616", "18446744073709551621",
		"09223372036854775807", "-09223372036854775808", strings.Repeat("9", 3000),
		"\x00", "5\x00", "\x005", "\xff", "5\xff", "\xff5", "\xd9", "\u0663", "\uff15", "5\uff15", "\u22125", "5é",
	}
	for _, s := range invalid {
		if n, ok := impl.ParseInt(s); n != 0 || ok {
			t.Errorf("ParseInt(%q) = %d, %v, want 0, false", s, n, ok)
		}
	}
}

// P1, P18.
func TestParseIntTakesExactlyTheTextsOfInts(t *testing.T) {
	canonical := regexp.MustCompile(`^(0|-?[1-9][0-9]*)$`)
	for _, s := range textsOver(4, "-", "+", "0", "1", "9", " ", "_", "\xff") {
		want := 0
		wantOk := canonical.MatchString(s)
		if wantOk {
			fmt.Sscan(s, &want)
		}
		if got, ok := impl.ParseInt(s); got != want || ok != wantOk {
			t.Errorf("ParseInt(%q) = %d, %v, want %d, %v", s, got, ok, want, wantOk)
		}
	}
}

// P18.
func TestIsDigits(t *testing.T) {
	for _, s := range []string{"0", "9", "00", "09", "0123456789", strings.Repeat("7", 5000)} {
		if !impl.IsDigits(s) {
			t.Errorf("IsDigits(%q) is false", s)
		}
	}
	for _, s := range []string{"", "-1", "+1", " ", "1 ", " 1", "1a", "a1", "1.5", "1\n", "\u0663", "\uff11", "1\uff11", "1\xff", "\xff1", "1\xc3"} {
		if impl.IsDigits(s) {
			t.Errorf("IsDigits(%q) is true", s)
		}
	}
}

// P18.
func TestIsDigitsOfEveryByte(t *testing.T) {
	for b := range 256 {
		s := string([]byte{byte(b)})
		want := '0' <= b && b <= '9'
		for _, text := range []string{s, "5" + s, s + "5"} {
			if got := impl.IsDigits(text); got != want {
				t.Errorf("IsDigits(%q) = %v, want %v", text, got, want)
			}
		}
	}
}

// P18.
func TestIsName(t *testing.T) {
	for _, s := range []string{"a", "z", "x1", "a0", "p12", "abcdefgh", "a1234567", "zzzzzzz9"} {
		if !impl.IsName(s) {
			t.Errorf("IsName(%q) is false", s)
		}
	}
	invalid := []string{
		"", "1", "1x", "0", "A", "aB", "a_b", "a b", " a", "a ", "a\n", "a-", "abcdefghi", "a12345678",
		"é", "aé", "abcdefé", "abcdefgé", "\uff41", "a\uff41", "a\u0663", "\xff", "a\xff", "\xffa", "a\x00", strings.Repeat("a", 5000),
	}
	for _, s := range invalid {
		if impl.IsName(s) {
			t.Errorf("IsName(%q) is true", s)
		}
	}
}

// P18.
func TestIsNameOfEveryByte(t *testing.T) {
	for b := range 256 {
		s := string([]byte{byte(b)})
		letter := 'a' <= b && b <= 'z'
		digit := '0' <= b && b <= '9'
		for _, text := range []string{s, s + "1", s + "abcdefg"} {
			if got := impl.IsName(text); got != letter {
				t.Errorf("IsName(%q) = %v, want %v", text, got, letter)
			}
		}
		for _, text := range []string{"a" + s, "a" + s + "b", "abcdefg" + s} {
			if got, want := impl.IsName(text), letter || digit; got != want {
				t.Errorf("IsName(%q) = %v, want %v", text, got, want)
			}
		}
	}
}

// P18.
func TestSplitAny(t *testing.T) {
	cases := []struct {
		s, by string
		want  []string
	}{
		{"a,b c", ", ", []string{"a", "b", "c"}},
		{"a,b,c", ",", []string{"a", "b", "c"}},
		{"abc", ",", []string{"abc"}},
		{"abc", "", []string{"abc"}},
		{"", "", []string{""}},
		{"", ",", []string{""}},
		{",", ",", []string{"", ""}},
		{",,", ",", []string{"", "", ""}},
		{", ,", ", ", []string{"", "", "", ""}},
		{",a,", ",", []string{"", "a", ""}},
		{"a,b", ",,", []string{"a", "b"}},
		{"a, b", ", ", []string{"a", "", "b"}},
		{"abc", "abc", []string{"", "", "", ""}},
		{"a\nb\x00c", "\x00\n", []string{"a", "b", "c"}},
		{"a\xffb", "\xff", []string{"a", "b"}},
		{"a\xffb\xfec", "\xfe", []string{"a\xffb", "c"}},
		{"a\xffb", "\xef\xbf\xbd", []string{"a\xffb"}},
		{"a\ufffdb", "\xff", []string{"a\ufffdb"}},
		{"aéb", "é", []string{"a", "", "b"}},
		{"aèb", "é", []string{"a", "\xa8b"}},
		{"a\xa9b", "é", []string{"a", "b"}},
		{"aéb", "\xa9", []string{"a\xc3", "b"}},
		{"aéb,c", ",", []string{"aéb", "c"}},
	}
	for _, c := range cases {
		if got := impl.SplitAny(c.s, c.by); !slices.Equal(got, c.want) {
			t.Errorf("SplitAny(%q, %q) = %q, want %q", c.s, c.by, got, c.want)
		}
	}
}

// splitBytes is the slow, direct reading of SplitAny.
func splitBytes(s string, by string) []string {
	parts := []string{""}
	for _, b := range []byte(s) {
		if bytes.IndexByte([]byte(by), b) >= 0 {
			parts = append(parts, "")
		} else {
			parts[len(parts)-1] += string([]byte{b})
		}
	}
	return parts
}

// P18.
func TestSplitAnyOfAllShortTexts(t *testing.T) {
	pieces := []string{"a", ",", " ", "\n", "\xff", "é"}
	for _, s := range textsOver(4, pieces...) {
		for _, by := range textsOver(2, append(pieces, "\xc3")...) {
			if got, want := impl.SplitAny(s, by), splitBytes(s, by); !slices.Equal(got, want) {
				t.Errorf("SplitAny(%q, %q) = %q, want %q", s, by, got, want)
			}
		}
	}
}

// P18.
func TestSplitAnyAtEveryByte(t *testing.T) {
	for b := range 256 {
		by := string([]byte{byte(b)})
		other := string([]byte{byte(b) ^ 1})
		if got := impl.SplitAny(other+by+other, by); !slices.Equal(got, []string{other, other}) {
			t.Errorf("byte %d: SplitAny = %q", b, got)
		}
	}
}

// P18.
func TestSplitLines(t *testing.T) {
	cases := []struct {
		s    string
		want []string
	}{
		{"", nil},
		{"a", []string{"a"}},
		{"\n", []string{""}},
		{"\n\n", []string{"", ""}},
		{"a\n", []string{"a"}},
		{"a\nb", []string{"a", "b"}},
		{"a\nb\n", []string{"a", "b"}},
		{"a\n\n", []string{"a", ""}},
		{"a\n\nb", []string{"a", "", "b"}},
		{"\na", []string{"", "a"}},
		{"a\n ", []string{"a", " "}},
		{"a\r\nb\r", []string{"a\r", "b\r"}},
		{"a\vb\fc\x85d\u2028e\u0085f", []string{"a\vb\fc\x85d\u2028e\u0085f"}},
		{"\xff\n\xc3\n", []string{"\xff", "\xc3"}},
		{"\xe2\x82\n\xac", []string{"\xe2\x82", "\xac"}},
		{"é\nü\n", []string{"é", "ü"}},
	}
	for _, c := range cases {
		if got := impl.SplitLines(c.s); !slices.Equal(got, c.want) {
			t.Errorf("SplitLines(%q) = %q, want %q", c.s, got, c.want)
		}
	}
}

// P18.
func TestSplitLinesOfAllShortTexts(t *testing.T) {
	for _, s := range textsOver(5, "a", "\n", "\r", "\xff", "é") {
		lines := impl.SplitLines(s)
		whole := ""
		for _, line := range lines {
			if strings.Contains(line, "\n") {
				t.Errorf("SplitLines(%q) has a line with a newline: %q", s, lines)
			}
			whole += line + "\n"
		}
		want := s
		if s != "" && !strings.HasSuffix(s, "\n") {
			want += "\n"
		}
		if whole != want {
			t.Errorf("SplitLines(%q) = %q", s, lines)
		}
	}
}

// P18.
func TestJoin(t *testing.T) {
	cases := []struct {
		l    []string
		by   string
		want string
	}{
		{nil, ",", ""},
		{[]string{}, ",", ""},
		{[]string{""}, ",", ""},
		{[]string{"a"}, ",", "a"},
		{[]string{"", ""}, ",", ","},
		{[]string{"a", "b"}, ",", "a,b"},
		{[]string{"a", "b", "c"}, "", "abc"},
		{[]string{"a", "", "c"}, ", ", "a, , c"},
		{[]string{"", "a", ""}, "-", "-a-"},
		{[]string{",", ","}, ",", ",,,"},
		{[]string{"\xff", "é"}, "\xc3", "\xff\xc3é"},
		{[]string{"\xc3", "\xa9"}, "", "é"},
	}
	for _, c := range cases {
		if got := impl.Join(c.l, c.by); got != c.want {
			t.Errorf("Join(%q, %q) = %q, want %q", c.l, c.by, got, c.want)
		}
	}
}

// P18.
func TestJoinRestoresWhatWasSplit(t *testing.T) {
	for _, s := range textsOver(5, "a", ",", "\n", "\xff", "é") {
		for _, by := range []string{",", "\n", "\xff", "\xc3"} {
			if got := impl.Join(impl.SplitAny(s, by), by); got != s {
				t.Errorf("Join(SplitAny(%q, %q)) = %q", s, by, got)
			}
		}
	}
}

// P18.
func TestPadZeros(t *testing.T) {
	cases := []struct {
		s    string
		n    int
		want string
	}{
		{"7", 3, "007"},
		{"7", 2, "07"},
		{"7", 1, "7"},
		{"7", 0, "7"},
		{"7", -1, "7"},
		{"7", math.MinInt, "7"},
		{"7", math.MaxInt, "7"},
		{"", 0, ""},
		{"", 1, "0"},
		{"", 4, "0000"},
		{"", -3, ""},
		{"123", 3, "123"},
		{"1234", 3, "1234"},
		{"-5", 4, "00-5"},
		{"00", 3, "000"},
		{"é", 3, "0é"},
		{"é", 2, "é"},
		{"éé", 3, "éé"},
		{"\xff", 3, "00\xff"},
		{"7", 1999, strings.Repeat("0", 1998) + "7"},
		{"7", 2000, strings.Repeat("0", 1999) + "7"},
		{"", 2000, strings.Repeat("0", 2000)},
		{"7", 2001, "7"},
		{"", 2001, ""},
		{strings.Repeat("8", 1999), 2000, "0" + strings.Repeat("8", 1999)},
		{strings.Repeat("8", 2000), 2000, strings.Repeat("8", 2000)},
		{strings.Repeat("8", 2000), 2001, strings.Repeat("8", 2000)},
		{strings.Repeat("8", 2500), 3000, strings.Repeat("8", 2500)},
		{strings.Repeat("8", 2500), 2000, strings.Repeat("8", 2500)},
	}
	for _, c := range cases {
		if got := impl.PadZeros(c.s, c.n); got != c.want {
			t.Errorf("PadZeros(%q, %d) = %q, want %q", c.s, c.n, got, c.want)
		}
	}
}

// P18.
func TestPadZerosOfEveryLength(t *testing.T) {
	for n := -2; n <= 2003; n++ {
		for _, s := range []string{"", "5", "-42"} {
			want := s
			if n <= 2000 {
				want = strings.Repeat("0", max(0, n-len(s))) + s
			}
			if got := impl.PadZeros(s, n); got != want {
				t.Errorf("PadZeros(%q, %d) has %d bytes, want %d", s, n, len(got), len(want))
			}
		}
	}
}

// Chapter 1: arguments and the capacity behind them stay as they are.
func TestTextArgumentsAreNotChanged(t *testing.T) {
	row := []string{"a", "b", "c", "d"}
	if got := impl.Join(row[:2], "-"); got != "a-b" {
		t.Errorf("Join = %q", got)
	}
	if !slices.Equal(row, []string{"a", "b", "c", "d"}) {
		t.Errorf("Join changed its argument: %q", row)
	}
}

// Chapter 1: every result is new, and no state is kept between calls.
func TestTextResultsAreNew(t *testing.T) {
	splits := map[string]func() []string{
		"SplitAny":   func() []string { return impl.SplitAny("a,b", ",") },
		"SplitLines": func() []string { return impl.SplitLines("a\nb\n") },
	}
	for name, split := range splits {
		first := split()
		first[0] = "x"
		first = append(first, "y")
		second := split()
		if !slices.Equal(second, []string{"a", "b"}) {
			t.Errorf("%s: the second result is %q after a change of the first one, %q", name, second, first)
		}
	}
}
