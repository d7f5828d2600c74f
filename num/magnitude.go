package num

import (
	"iter"
	"slices"
	"strconv"
)

const (
	limbBase   = 1_000_000_000
	limbDigits = 9
	// The longest intermediate result is a sum of two products of 120 digits each, that is 241 digits; the
	// dividend of a division needs one limb more.
	limbCount = 30
)

// limbs are groups of nine decimal digits, the least significant group first.
type limbs [limbCount]uint32

// powers of ten within a limb.
var powers = [limbDigits]uint32{1, 10, 100, 1000, 10000, 100000, 1000000, 10000000, 100000000}

// magnitude is a number that is not negative.
type magnitude struct {
	limbs limbs
}

// digitsOf visits the digits of a string of digits, each with its place, which is 0 for the last one.
func digitsOf(s string) iter.Seq2[int, uint32] {
	return func(yield func(int, uint32) bool) {
		for i, c := range s {
			if !yield(len(s)-1-i, uint32(c-'0')) {
				return
			}
		}
	}
}

// parseMagnitude reads a string of digits.
func parseMagnitude(s string) magnitude {
	var m magnitude
	for place, digit := range digitsOf(s) {
		m.limbs[place/limbDigits] += digit * powers[place%limbDigits]
	}
	return m
}

// small returns the magnitude of a number that has one limb.
func small(n uint32) magnitude {
	var m magnitude
	m.limbs[0] = n
	return m
}

func (m magnitude) isZero() bool {
	return m.limbs == limbs{}
}

// size returns the number of limbs in use.
func (m magnitude) size() int {
	n := limbCount
	for n > 0 && m.limbs[n-1] == 0 {
		n--
	}
	return n
}

// digits returns the number of decimal digits; that of zero is 0.
func (m magnitude) digits() int {
	n := m.size()
	if n == 0 {
		return 0
	}
	return (n-1)*limbDigits + len(strconv.Itoa(int(m.limbs[n-1])))
}

// digitText is a text to which limbs are appended.
type digitText struct {
	bytes []byte
}

// put appends a limb with at least the given number of digits.
func (d *digitText) put(limb uint32, width int) {
	text := strconv.Itoa(int(limb))
	for range width - len(text) {
		d.bytes = append(d.bytes, '0')
	}
	d.bytes = append(d.bytes, text...)
}

// String returns the decimal digits.
func (m magnitude) String() string {
	var text digitText
	put := text.put
	top := max(m.size()-1, 0)
	put(m.limbs[top], 1)
	for i := range top {
		put(m.limbs[top-1-i], limbDigits)
	}
	return string(text.bytes)
}

func (m magnitude) compare(o magnitude) int {
	for i := range limbCount {
		at := limbCount - 1 - i
		if m.limbs[at] < o.limbs[at] {
			return -1
		}
		if m.limbs[at] > o.limbs[at] {
			return 1
		}
	}
	return 0
}

func (m magnitude) plus(o magnitude) magnitude {
	carry := uint32(0)
	for i := range limbCount {
		sum := m.limbs[i] + o.limbs[i] + carry
		carry = sum / limbBase
		m.limbs[i] = sum % limbBase
	}
	return m
}

// minus returns the difference, where o is at most m.
func (m magnitude) minus(o magnitude) magnitude {
	borrow := uint32(0)
	for i := range limbCount {
		rest := m.limbs[i] + limbBase - o.limbs[i] - borrow
		borrow = 1 - rest/limbBase
		m.limbs[i] = rest % limbBase
	}
	return m
}

// distance returns the difference of the greater and the less of two magnitudes.
func (m magnitude) distance(o magnitude) magnitude {
	both := []magnitude{m, o}
	return slices.MaxFunc(both, magnitude.compare).minus(slices.MinFunc(both, magnitude.compare))
}

func (m magnitude) times(o magnitude) magnitude {
	var product magnitude
	long, short := m.size(), o.size()
	for i := range long {
		carry := uint64(0)
		for j := range min(short+1, limbCount-i) {
			sum := uint64(product.limbs[i+j]) + uint64(m.limbs[i])*uint64(o.limbs[j]) + carry
			product.limbs[i+j] = uint32(sum % limbBase)
			carry = sum / limbBase
		}
	}
	return product
}

// divide returns the quotient and the remainder, where o is not zero.
func (m magnitude) divide(o magnitude) (magnitude, magnitude) {
	if m.compare(o) < 0 {
		return magnitude{}, m
	}
	if o.size() == 1 {
		quotient, rest := m.divideByLimb(o.limbs[0])
		return quotient, small(rest)
	}
	return m.divideLong(o)
}

func (m magnitude) divideByLimb(divisor uint32) (magnitude, uint32) {
	rest := uint64(0)
	for i := range limbCount {
		at := limbCount - 1 - i
		rest = rest*limbBase + uint64(m.limbs[at])
		m.limbs[at] = uint32(rest / uint64(divisor))
		rest %= uint64(divisor)
	}
	return m, uint32(rest)
}

// divideLong divides by a divisor of at least two limbs. Both numbers are first multiplied so that the first limb of
// the divisor is large: then the first two limbs give a quotient digit that is at most two too large.
func (m magnitude) divideLong(o magnitude) (magnitude, magnitude) {
	size := o.size()
	scale := small(limbBase / (o.limbs[size-1] + 1))
	dividend := m.times(scale)
	rest := make([]uint32, limbCount+1)
	copy(rest, dividend.limbs[:])
	divisor := make([]uint32, size)
	scaled := o.times(scale)
	copy(divisor, scaled.limbs[:])
	var quotient magnitude
	last := dividend.size() - size
	for i := range last + 1 {
		at := last - i
		digit := guessDigit(rest[at:], divisor)
		if subtractProduct(rest[at:], divisor, digit) {
			digit--
			addBack(rest[at:], divisor)
		}
		quotient.limbs[at] = uint32(digit)
	}
	var remainder magnitude
	copy(remainder.limbs[:], rest)
	remainder, _ = remainder.divideByLimb(scale.limbs[0])
	return quotient, remainder
}

// guessDigit returns a quotient digit that is right or one too large.
func guessDigit(rest, divisor []uint32) uint64 {
	top := len(divisor)
	head := uint64(rest[top])*limbBase + uint64(rest[top-1])
	digit := head / uint64(divisor[top-1])
	over := head % uint64(divisor[top-1])
search:
	for {
		switch {
		case digit >= limbBase:
		case digit*uint64(divisor[top-2]) > over*limbBase+uint64(rest[top-2]):
		default:
			break search
		}
		digit--
		over += uint64(divisor[top-1])
		if over >= limbBase {
			break search
		}
	}
	return digit
}

// subtractProduct takes digit times the divisor away from the rest, and reports whether that was too much.
func subtractProduct(rest, divisor []uint32, digit uint64) bool {
	carry, borrow := uint64(0), uint32(0)
	for i := range divisor {
		product := digit*uint64(divisor[i]) + carry
		carry = product / limbBase
		part := rest[i] + limbBase - uint32(product%limbBase) - borrow
		borrow = 1 - part/limbBase
		rest[i] = part % limbBase
	}
	part := rest[len(divisor)] + limbBase - uint32(carry) - borrow
	rest[len(divisor)] = part % limbBase
	return part < limbBase
}

// addBack corrects a rest from which the divisor was taken away once too often.
func addBack(rest, divisor []uint32) {
	carry := uint32(0)
	for i := range divisor {
		sum := rest[i] + divisor[i] + carry
		carry = sum / limbBase
		rest[i] = sum % limbBase
	}
	rest[len(divisor)] = (rest[len(divisor)] + carry) % limbBase
}

// gcd returns the greatest common divisor; that of 0 and 0 is 0.
func (m magnitude) gcd(o magnitude) magnitude {
	for o.size() > 2 {
		_, rest := m.divide(o)
		m, o = o, rest
	}
	if o.isZero() {
		return m
	}
	_, rest := m.divide(o)
	return fromWord(gcdWords(o.word(), rest.word()))
}

// word returns the value of a magnitude of at most two limbs.
func (m magnitude) word() uint64 {
	return uint64(m.limbs[1])*limbBase + uint64(m.limbs[0])
}

// fromWord returns a magnitude of at most two limbs.
func fromWord(n uint64) magnitude {
	m := small(uint32(n % limbBase))
	m.limbs[1] = uint32(n / limbBase)
	return m
}

func gcdWords(a, b uint64) uint64 {
	for b != 0 {
		a, b = b, a%b
	}
	return a
}
