package num

import (
	"math/big"
	"math/rand"
	"strconv"
	"strings"
	"testing"

	"entail/api"
)

// nines returns a number of n digits.
func nines(n int) string { return strings.Repeat("9", n) }

// randomInteger returns an integer of up to max digits; short ones and round ones are frequent.
func randomInteger(r *rand.Rand, max int) string {
	n := 1 + r.Intn(max)
	if r.Intn(3) == 0 {
		n = 1 + r.Intn(min(max, 3))
	}
	var b strings.Builder
	for range n {
		switch r.Intn(4) {
		case 0:
			b.WriteByte('0')
		case 1:
			b.WriteByte('9')
		default:
			b.WriteByte(byte('0' + r.Intn(10)))
		}
	}
	s := strings.TrimLeft(b.String(), "0")
	if s == "" {
		return "0"
	}
	if r.Intn(2) == 0 {
		return "-" + s
	}
	return s
}

func toBig(t *testing.T, s string) *big.Int {
	t.Helper()
	n, ok := new(big.Int).SetString(s, 10)
	if !ok {
		t.Fatalf("not an integer: %q", s)
	}
	return n
}

// limited returns the string of a number, or ErrLarge.
func limited(n *big.Int) (string, api.Errno) {
	if len(new(big.Int).Abs(n).String()) > api.MaxDigits {
		return "", api.ErrLarge
	}
	return n.String(), api.OK
}

func randomFraction(r *rand.Rand, max int) (string, *big.Rat) {
	p, _ := new(big.Int).SetString(randomInteger(r, max), 10)
	q, _ := new(big.Int).SetString(randomInteger(r, max), 10)
	if q.Sign() == 0 {
		q.SetInt64(7)
	}
	f := new(big.Rat).SetFrac(p, q)
	return f.Num().String() + "/" + f.Denom().String(), f
}

func limitedFraction(f *big.Rat) (string, api.Errno) {
	p, e := limited(f.Num())
	q, d := limited(f.Denom())
	if e != api.OK || d != api.OK {
		return "", api.ErrLarge
	}
	return p + "/" + q, api.OK
}

func TestCheck(t *testing.T) { // P1.1
	for s, want := range map[string]api.Errno{
		"0": api.OK, "7": api.OK, "-7": api.OK, "10": api.OK, "-100": api.OK, nines(120): api.OK, "-" + nines(120): api.OK,
		"": api.ErrForm, "-": api.ErrForm, "--1": api.ErrForm, "-0": api.ErrForm, "00": api.ErrForm, "007": api.ErrForm,
		"-01": api.ErrForm, "+1": api.ErrForm, " 1": api.ErrForm, "1 ": api.ErrForm, "1a": api.ErrForm, "1-": api.ErrForm,
		"\u0663": api.ErrForm, "1\xff": api.ErrForm, "1/2": api.ErrForm, "1.5": api.ErrForm,
		nines(121): api.ErrLarge, "-" + nines(121): api.ErrLarge, "0" + nines(121): api.ErrForm, nines(121) + "x": api.ErrForm,
	} {
		if e := Check(s); e != want {
			t.Errorf("Check(%q): %d, want %d", s, e, want)
		}
	}
}

func TestInts(t *testing.T) { // P1.1
	for _, n := range []int{0, 1, -1, 42, -9223372036854775808, 9223372036854775807} {
		if s := FromInt(n); s != strconv.Itoa(n) {
			t.Errorf("FromInt(%d): %q", n, s)
		}
		if m, e := ToInt(FromInt(n)); m != n || e != api.OK {
			t.Errorf("ToInt(%d): %d, %d", n, m, e)
		}
	}
	for s, want := range map[string]api.Errno{"9223372036854775808": api.ErrLarge, "-9223372036854775809": api.ErrLarge, nines(120): api.ErrLarge, nines(121): api.ErrLarge, "": api.ErrForm, "-0": api.ErrForm, "1e3": api.ErrForm, "1_0": api.ErrForm} {
		if n, e := ToInt(s); n != 0 || e != want {
			t.Errorf("ToInt(%q): %d, %d, want %d", s, n, e, want)
		}
	}
}

func TestIntegerExamples(t *testing.T) { // P1.1
	for _, c := range []struct {
		name       string
		f          func(a, b string) (string, api.Errno)
		a, b, want string
		e          api.Errno
	}{
		{"Add", Add, "99", "1", "100", api.OK},
		{"Add", Add, nines(120), "1", "", api.ErrLarge},
		{"Add", Add, "-" + nines(120), "-1", "", api.ErrLarge},
		{"Add", Add, nines(120), "-1", nines(119) + "8", api.OK},
		{"Add", Add, "x", nines(121), "", api.ErrForm},
		{"Add", Add, nines(121), "x", "", api.ErrLarge},
		{"Add", Add, "1", "x", "", api.ErrForm},
		{"Sub", Sub, "5", "12", "-7", api.OK},
		{"Sub", Sub, "7", "7", "0", api.OK},
		{"Sub", Sub, "-" + nines(120), "1", "", api.ErrLarge},
		{"Mul", Mul, "-12", "12", "-144", api.OK},
		{"Mul", Mul, "-12", "0", "0", api.OK},
		{"Mul", Mul, "1" + strings.Repeat("0", 60), "1" + strings.Repeat("0", 60), "", api.ErrLarge},
		{"Mul", Mul, "1" + strings.Repeat("0", 60), "1" + strings.Repeat("0", 59), "1" + strings.Repeat("0", 119), api.OK},
		{"Gcd", Gcd, "0", "0", "0", api.OK},
		{"Gcd", Gcd, "0", "-5", "5", api.OK},
		{"Gcd", Gcd, "-12", "18", "6", api.OK},
		{"Gcd", Gcd, nines(120), "0", nines(120), api.OK},
		{"Gcd", Gcd, "1", "01", "", api.ErrForm},
	} {
		if s, e := c.f(c.a, c.b); s != c.want || e != c.e {
			t.Errorf("%s(%s, %s): %q, %d", c.name, c.a, c.b, s, e)
		}
	}
	for a, want := range map[string]string{"0": "0", "5": "-5", "-5": "5", nines(120): "-" + nines(120)} {
		if s, e := Neg(a); s != want || e != api.OK {
			t.Errorf("Neg(%s): %q, %d", a, s, e)
		}
	}
	if s, e := Neg("-0"); s != "" || e != api.ErrForm {
		t.Errorf("Neg(-0): %q, %d", s, e)
	}
}

func TestDivMod(t *testing.T) { // P1.1
	for _, c := range []struct{ a, b, d, r string }{
		{"-7", "2", "-4", "1"}, {"-7", "-2", "4", "1"}, {"7", "-2", "-3", "1"}, {"7", "2", "3", "1"},
		{"0", "-3", "0", "0"}, {"-6", "3", "-2", "0"}, {"-6", "-3", "2", "0"}, {"-1", nines(120), "-1", nines(119) + "8"},
		{"-" + nines(120), "-1", nines(120), "0"},
		// The first guess of a quotient digit is too large here, and the divisor is added back.
		{"1000000000000000000000000000", "1000000000000000001", "999999999", "999999999000000001"},
	} {
		if d, r, e := DivMod(c.a, c.b); d != c.d || r != c.r || e != api.OK {
			t.Errorf("DivMod(%s, %s): %q, %q, %d", c.a, c.b, d, r, e)
		}
	}
	for _, c := range []struct {
		a, b string
		want api.Errno
	}{{"7", "0", api.ErrDivide}, {"x", "0", api.ErrForm}, {"7", "-0", api.ErrForm}, {nines(121), "x", api.ErrLarge}} {
		if d, r, e := DivMod(c.a, c.b); d != "" || r != "" || e != c.want {
			t.Errorf("DivMod(%s, %s): %q, %q, %d", c.a, c.b, d, r, e)
		}
	}
}

func TestPow(t *testing.T) { // P1.1
	for _, c := range []struct {
		a    string
		n    int
		want string
		e    api.Errno
	}{
		{"0", 0, "1", api.OK}, {"0", 5, "0", api.OK}, {"-1", 1000, "1", api.OK}, {"-1", 999, "-1", api.OK}, {"-2", 3, "-8", api.OK},
		{"10", 119, "1" + strings.Repeat("0", 119), api.OK}, {"10", 120, "", api.ErrLarge}, {nines(120), 1, nines(120), api.OK},
		{nines(120), 2, "", api.ErrLarge}, {"2", 1000, "", api.ErrLarge}, {"2", 1001, "", api.ErrRange}, {"2", -1, "", api.ErrRange},
		{"x", -1, "", api.ErrForm}, {"1", 1000, "1", api.OK},
	} {
		if s, e := Pow(c.a, c.n); s != c.want || e != c.e {
			t.Errorf("Pow(%s, %d): %q, %d", c.a, c.n, s, e)
		}
	}
}

func TestIntegersAgainstBig(t *testing.T) { // P1.1
	r := rand.New(rand.NewSource(1))
	for range 20000 {
		a, b := randomInteger(r, 120), randomInteger(r, 120)
		x, y := toBig(t, a), toBig(t, b)
		for _, c := range []struct {
			name string
			f    func(a, b string) (string, api.Errno)
			want *big.Int
		}{
			{"Add", Add, new(big.Int).Add(x, y)}, {"Sub", Sub, new(big.Int).Sub(x, y)}, {"Mul", Mul, new(big.Int).Mul(x, y)},
			{"Gcd", Gcd, new(big.Int).GCD(nil, nil, new(big.Int).Abs(x), new(big.Int).Abs(y))},
		} {
			want, wantError := limited(c.want)
			if s, e := c.f(a, b); s != want || e != wantError {
				t.Fatalf("%s(%s, %s): %q, %d, want %q, %d", c.name, a, b, s, e, want, wantError)
			}
		}
		if n, e := Compare(a, b); n != x.Cmp(y) || e != api.OK {
			t.Fatalf("Compare(%s, %s): %d, %d", a, b, n, e)
		}
		if y.Sign() == 0 {
			continue
		}
		wantD, wantR := new(big.Int).DivMod(x, y, new(big.Int))
		if d, rest, e := DivMod(a, b); d != wantD.String() || rest != wantR.String() || e != api.OK {
			t.Fatalf("DivMod(%s, %s): %q, %q, %d", a, b, d, rest, e)
		}
	}
}

func TestIntegerLaws(t *testing.T) { // P1.4
	r := rand.New(rand.NewSource(2))
	must := func(s string, e api.Errno) string {
		if e != api.OK {
			t.Fatalf("error %d", e)
		}
		return s
	}
	for range 2000 {
		a, b, c := randomInteger(r, 39), randomInteger(r, 39), randomInteger(r, 39)
		if must(Add(a, b)) != must(Add(b, a)) || must(Mul(a, b)) != must(Mul(b, a)) {
			t.Fatal("not commutative", a, b)
		}
		if must(Add(must(Add(a, b)), c)) != must(Add(a, must(Add(b, c)))) || must(Mul(must(Mul(a, b)), c)) != must(Mul(a, must(Mul(b, c)))) {
			t.Fatal("not associative", a, b, c)
		}
		if must(Mul(a, must(Add(b, c)))) != must(Add(must(Mul(a, b)), must(Mul(a, c)))) {
			t.Fatal("not distributive", a, b, c)
		}
		before, _ := Compare(a, b)
		after, _ := Compare(must(Add(a, c)), must(Add(b, c)))
		if before != after || must(Sub(a, b)) != must(Add(a, must(Neg(b)))) {
			t.Fatal("order or difference", a, b, c)
		}
		if b == "0" {
			continue
		}
		d, rest, e := DivMod(a, b)
		if e != api.OK || must(Add(must(Mul(b, d)), rest)) != a {
			t.Fatal("division", a, b, d, rest)
		}
		low, _ := Compare(rest, "0")
		high, _ := Compare(rest, strings.TrimPrefix(b, "-"))
		if low < 0 || high >= 0 {
			t.Fatal("remainder", a, b, rest)
		}
	}
}

func TestCheckReal(t *testing.T) { // P1.2
	for s, want := range map[string]api.Errno{
		"0/1": api.OK, "3/1": api.OK, "-3/2": api.OK, nines(120) + "/1": api.OK, "1/" + nines(120): api.OK,
		"2/4": api.ErrForm, "1/-2": api.ErrForm, "0/2": api.ErrForm, "1/0": api.ErrForm, "0/0": api.ErrForm, "3": api.ErrForm,
		"": api.ErrForm, "/": api.ErrForm, "1/": api.ErrForm, "/1": api.ErrForm, "1/2/3": api.ErrForm, "1//2": api.ErrForm,
		"-0/1": api.ErrForm, "1/02": api.ErrForm, "+1/2": api.ErrForm, nines(121) + "/1": api.ErrLarge, "1/" + nines(121): api.ErrLarge,
		nines(121) + "/x": api.ErrLarge, "x/" + nines(121): api.ErrForm, nines(121) + "/1/1": api.ErrForm, "1/-" + nines(121): api.ErrLarge,
	} {
		if e := CheckReal(s); e != want {
			t.Errorf("CheckReal(%q): %d, want %d", s, e, want)
		}
	}
}

func TestFractionExamples(t *testing.T) { // P1.2
	large := "1/1" + strings.Repeat("0", 119)
	for _, c := range []struct {
		name       string
		f          func(a, b string) (string, api.Errno)
		a, b, want string
		e          api.Errno
	}{
		{"Real", Real, "6", "-4", "-3/2", api.OK},
		{"Real", Real, "0", "-4", "0/1", api.OK},
		{"Real", Real, "-6", "-4", "3/2", api.OK},
		{"Real", Real, "6", "0", "", api.ErrDivide},
		{"Real", Real, "x", "0", "", api.ErrForm},
		{"Real", Real, "6", nines(121), "", api.ErrLarge},
		{"AddReal", AddReal, "1/2", "1/3", "5/6", api.OK},
		{"AddReal", AddReal, "1/3", "1/6", "1/2", api.OK},
		{"AddReal", AddReal, large, "1/11", "", api.ErrLarge},
		{"AddReal", AddReal, nines(120) + "/1", "1/1", "", api.ErrLarge},
		{"AddReal", AddReal, large, "-" + large, "0/1", api.OK},
		{"AddReal", AddReal, "2/4", "x", "", api.ErrForm},
		{"AddReal", AddReal, "1/2", nines(121) + "/1", "", api.ErrLarge},
		{"SubReal", SubReal, "1/2", "1/3", "1/6", api.OK},
		{"SubReal", SubReal, "1/2", "1/2", "0/1", api.OK},
		{"MulReal", MulReal, "-2/3", "3/4", "-1/2", api.OK},
		{"MulReal", MulReal, large, "1/10", "", api.ErrLarge},
		{"MulReal", MulReal, large, "10/1", "1/1" + strings.Repeat("0", 118), api.OK},
		{"DivReal", DivReal, "1/2", "-3/4", "-2/3", api.OK},
		{"DivReal", DivReal, "0/1", "-3/4", "0/1", api.OK},
		{"DivReal", DivReal, "1/2", "0/1", "", api.ErrDivide},
		{"DivReal", DivReal, "1/2", "0/2", "", api.ErrForm},
		{"DivReal", DivReal, nines(120) + "/1", large, "", api.ErrLarge},
	} {
		if s, e := c.f(c.a, c.b); s != c.want || e != c.e {
			t.Errorf("%s(%s, %s): %q, %d", c.name, c.a, c.b, s, e)
		}
	}
	for s, want := range map[string]string{"-3/2": "-2", "3/2": "1", "-4/1": "-4", "0/1": "0", "-1/" + nines(120): "-1", "-" + nines(120) + "/1": "-" + nines(120)} {
		if n, e := Floor(s); n != want || e != api.OK {
			t.Errorf("Floor(%s): %q, %d", s, n, e)
		}
	}
	if p, q, e := Parts("-3/2"); p != "-3" || q != "2" || e != api.OK {
		t.Errorf("Parts: %q, %q, %d", p, q, e)
	}
	if p, q, e := Parts("2/4"); p != "" || q != "" || e != api.ErrForm {
		t.Errorf("Parts: %q, %q, %d", p, q, e)
	}
	if n, e := Floor("3"); n != "" || e != api.ErrForm {
		t.Errorf("Floor: %q, %d", n, e)
	}
	if n, e := CompareReal("1/2", "2/4"); n != 0 || e != api.ErrForm {
		t.Errorf("CompareReal: %d, %d", n, e)
	}
}

func TestFromDecimal(t *testing.T) { // P1.2
	for s, want := range map[string]string{"12.50": "25/2", "0.0": "0/1", "007.50": "15/2", "3.0": "3/1", "0.1": "1/10", "00.00": "0/1", nines(119) + ".0": nines(119) + "/1", "0." + strings.Repeat("0", 118) + "1": "1/1" + strings.Repeat("0", 119)} {
		if f, e := FromDecimal(s); f != want || e != api.OK {
			t.Errorf("FromDecimal(%s): %q, %d, want %q", s, f, e, want)
		}
	}
	for s, want := range map[string]api.Errno{
		"": api.ErrForm, "1": api.ErrForm, ".": api.ErrForm, "1.": api.ErrForm, ".5": api.ErrForm, "-1.5": api.ErrForm, "1.-5": api.ErrForm,
		"1.2.3": api.ErrForm, "1,5": api.ErrForm, " 1.5": api.ErrForm, nines(120) + ".0": api.ErrLarge, nines(120) + ".": api.ErrForm, "0." + nines(120): api.ErrLarge,
	} {
		if f, e := FromDecimal(s); f != "" || e != want {
			t.Errorf("FromDecimal(%q): %q, %d, want %d", s, f, e, want)
		}
	}
}

func TestFractionsAgainstBig(t *testing.T) { // P1.2, P1.4
	r := rand.New(rand.NewSource(3))
	for i := range 6000 {
		size := 120
		if i%2 == 0 {
			size = 12
		}
		a, x := randomFraction(r, size)
		b, y := randomFraction(r, size)
		if e := CheckReal(a); e != api.OK {
			t.Fatalf("CheckReal(%s): %d", a, e)
		}
		cases := []struct {
			name string
			f    func(a, b string) (string, api.Errno)
			want *big.Rat
		}{{"AddReal", AddReal, new(big.Rat).Add(x, y)}, {"SubReal", SubReal, new(big.Rat).Sub(x, y)}, {"MulReal", MulReal, new(big.Rat).Mul(x, y)}}
		if y.Sign() != 0 {
			cases = append(cases, cases[0])
			cases[3].name, cases[3].f, cases[3].want = "DivReal", DivReal, new(big.Rat).Quo(x, y)
		}
		for _, c := range cases {
			want, wantError := limitedFraction(c.want)
			if s, e := c.f(a, b); s != want || e != wantError {
				t.Fatalf("%s(%s, %s): %q, %d, want %q, %d", c.name, a, b, s, e, want, wantError)
			}
		}
		if n, e := CompareReal(a, b); n != x.Cmp(y) || e != api.OK {
			t.Fatalf("CompareReal(%s, %s): %d, %d", a, b, n, e)
		}
		floor := new(big.Int).Div(x.Num(), x.Denom())
		if n, e := Floor(a); n != floor.String() || e != api.OK {
			t.Fatalf("Floor(%s): %q, %d", a, n, e)
		}
	}
}

func TestWrap(t *testing.T) { // P1.3
	for _, c := range []struct {
		s     string
		width int
		want  string
		e     api.Errno
	}{
		{"-1", 8, "255", api.OK}, {"256", 8, "0", api.OK}, {"-256", 8, "0", api.OK}, {"3", 1, "1", api.OK}, {"-1", 64, "18446744073709551615", api.OK},
		{"0", 64, "0", api.OK}, {"1", 0, "", api.ErrRange}, {"1", 65, "", api.ErrRange}, {"1", -1, "", api.ErrRange}, {"x", 0, "", api.ErrForm}, {nines(121), 8, "", api.ErrLarge},
	} {
		if s, e := Wrap(c.s, c.width); s != c.want || e != c.e {
			t.Errorf("Wrap(%s, %d): %q, %d", c.s, c.width, s, e)
		}
	}
	r := rand.New(rand.NewSource(4))
	for range 3000 {
		a, width := randomInteger(r, 120), 1+r.Intn(64)
		want := new(big.Int).Mod(toBig(t, a), new(big.Int).Lsh(big.NewInt(1), uint(width)))
		if s, e := Wrap(a, width); s != want.String() || e != api.OK {
			t.Fatalf("Wrap(%s, %d): %q, %d, want %s", a, width, s, e, want)
		}
	}
}

func TestBitErrors(t *testing.T) { // P1.3
	for _, c := range []struct {
		op, width int
		a, b      string
		want      api.Errno
	}{
		{-1, 0, "x", "x", api.ErrUnknown}, {BitOps, 8, "1", "1", api.ErrUnknown}, {BitAdd, 0, "x", "x", api.ErrRange}, {BitAdd, 65, "1", "1", api.ErrRange},
		{BitAdd, 8, "x", "256", api.ErrForm}, {BitAdd, 8, nines(121), "x", api.ErrLarge}, {BitAdd, 8, "256", "x", api.ErrRange}, {BitAdd, 8, "-1", "1", api.ErrRange},
		{BitAdd, 8, "255", "x", api.ErrForm}, {BitAdd, 8, "255", "256", api.ErrRange}, {BitAdd, 64, "18446744073709551616", "1", api.ErrRange},
		{BitDiv, 8, "1", "0", api.ErrDivide}, {BitMod, 8, "1", "0", api.ErrDivide}, {BitDiv, 8, "256", "0", api.ErrRange}, {BitDiv, 8, "1", "-0", api.ErrForm},
	} {
		if s, e := Bits(c.op, c.width, c.a, c.b); s != "" || e != c.want {
			t.Errorf("Bits(%d, %d, %s, %s): %q, %d, want %d", c.op, c.width, c.a, c.b, s, e, c.want)
		}
	}
}

// bitsOf is what an operation on bit vectors gives, by integers.
func bitsOf(op, width int, x, y *big.Int) *big.Int {
	z := new(big.Int)
	shift := uint(64)
	if y.Cmp(big.NewInt(64)) < 0 {
		shift = uint(y.Int64())
	}
	switch op {
	case BitAdd:
		z.Add(x, y)
	case BitSub:
		z.Sub(x, y)
	case BitMul:
		z.Mul(x, y)
	case BitDiv:
		z.Div(x, y)
	case BitMod:
		z.Mod(x, y)
	case BitAnd:
		z.And(x, y)
	case BitOr:
		z.Or(x, y)
	case BitXor:
		z.Xor(x, y)
	case BitShl:
		z.Lsh(x, shift)
	case BitShr:
		z.Rsh(x, shift)
	}
	return z.Mod(z, new(big.Int).Lsh(big.NewInt(1), uint(width)))
}

func TestBitsAgainstIntegers(t *testing.T) { // P1.3, P1.4
	for _, c := range []struct {
		op         int
		a, b, want string
	}{{BitAdd, "200", "100", "44"}, {BitShl, "1", "8", "0"}, {BitShr, "200", "3", "25"}, {BitXor, "12", "10", "6"}} {
		if s, e := Bits(c.op, 8, c.a, c.b); s != c.want || e != api.OK {
			t.Errorf("Bits(%d, 8, %s, %s): %q, %d", c.op, c.a, c.b, s, e)
		}
	}
	r := rand.New(rand.NewSource(5))
	for range 20000 {
		op, width := r.Intn(BitOps), 1+r.Intn(64)
		limit := new(big.Int).Lsh(big.NewInt(1), uint(width))
		x, y := new(big.Int).Rand(r, limit), new(big.Int).Rand(r, limit)
		if r.Intn(2) == 0 {
			y.SetInt64(int64(r.Intn(70)))
			y.Mod(y, limit)
		}
		if y.Sign() == 0 && (op == BitDiv || op == BitMod) {
			continue
		}
		want := bitsOf(op, width, x, y).String()
		if s, e := Bits(op, width, x.String(), y.String()); s != want || e != api.OK {
			t.Fatalf("Bits(%d, %d, %s, %s): %q, %d, want %s", op, width, x, y, s, e, want)
		}
	}
}

func TestBitsAgainstWords(t *testing.T) { // P1.4
	r := rand.New(rand.NewSource(6))
	apply := []func(a, b uint64) uint64{
		BitAdd: func(a, b uint64) uint64 { return a + b }, BitSub: func(a, b uint64) uint64 { return a - b },
		BitMul: func(a, b uint64) uint64 { return a * b }, BitDiv: func(a, b uint64) uint64 { return a / b },
		BitMod: func(a, b uint64) uint64 { return a % b }, BitAnd: func(a, b uint64) uint64 { return a & b },
		BitOr: func(a, b uint64) uint64 { return a | b }, BitXor: func(a, b uint64) uint64 { return a ^ b },
		BitShl: func(a, b uint64) uint64 { return a << b }, BitShr: func(a, b uint64) uint64 { return a >> b },
	}
	for range 5000 {
		op, a, b := r.Intn(BitOps), r.Uint64(), r.Uint64()|1
		if r.Intn(2) == 0 {
			b = uint64(1 + r.Intn(66))
		}
		want := strconv.FormatUint(apply[op](a, b), 10)
		if s, e := Bits(op, 64, strconv.FormatUint(a, 10), strconv.FormatUint(b, 10)); s != want || e != api.OK {
			t.Fatalf("Bits(%d, 64, %d, %d): %q, %d, want %s", op, a, b, s, e, want)
		}
	}
}

// TestFieldLaws checks the laws of an ordered field.
func TestFieldLaws(t *testing.T) { // P1.4
	r := rand.New(rand.NewSource(7))
	must := func(s string, e api.Errno) string {
		if e != api.OK {
			t.Fatalf("error %d", e)
		}
		return s
	}
	for range 1000 {
		a, _ := randomFraction(r, 19)
		b, _ := randomFraction(r, 19)
		c, _ := randomFraction(r, 19)
		if must(AddReal(a, b)) != must(AddReal(b, a)) || must(MulReal(must(MulReal(a, b)), c)) != must(MulReal(a, must(MulReal(b, c)))) {
			t.Fatal("sums or products", a, b, c)
		}
		if must(MulReal(a, must(AddReal(b, c)))) != must(AddReal(must(MulReal(a, b)), must(MulReal(a, c)))) {
			t.Fatal("not distributive", a, b, c)
		}
		if b != "0/1" && must(MulReal(must(DivReal(a, b)), b)) != a {
			t.Fatal("not inverse", a, b)
		}
		before, _ := CompareReal(a, b)
		after, _ := CompareReal(must(AddReal(a, c)), must(AddReal(b, c)))
		if before != after {
			t.Fatal("order", a, b, c)
		}
		if must(SubReal(must(AddReal(a, b)), b)) != a {
			t.Fatal("difference", a, b)
		}
	}
}

// TestDivisionStress divides magnitudes whose limbs are all small or all large, which is where quotient digits are guessed wrong.
func TestDivisionStress(t *testing.T) { // P1.1
	r := rand.New(rand.NewSource(8))
	limb := func() string {
		choice := []string{"000000000", "000000001", "999999999", "999999998", "500000000", "499999999"}
		return choice[r.Intn(len(choice))]
	}
	number := func(n int) string {
		s := ""
		for range n {
			s += limb()
		}
		s = strings.TrimLeft(s, "0")
		if s == "" {
			return "1"
		}
		return s
	}
	for range 60000 {
		a, b := number(1+r.Intn(13)), number(1+r.Intn(13))
		wantD, wantR := new(big.Int).DivMod(toBig(t, a), toBig(t, b), new(big.Int))
		if d, rest, e := DivMod(a, b); d != wantD.String() || rest != wantR.String() || e != api.OK {
			t.Fatalf("DivMod(%s, %s): %q, %q, %d, want %s, %s", a, b, d, rest, e, wantD, wantR)
		}
	}
}
