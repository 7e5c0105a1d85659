package impl

import (
	"math"
	"slices"
	"strconv"
	"strings"
)

// Limits of chapter 1.
const (
	MaxNumbers = 256
	MaxValue   = 1000000000000000
	MaxItems   = 64
	CheckSize  = 65003
)

// Many machines can multiply and add with a single rounding, and Go may use
// this wherever a product is a term of a sum. In this package each product
// stands in a conversion of its own, which forbids that: the same numbers come
// out on every kind of machine.

const (
	signBit         = 1 << 31
	infinityBits    = 0x7f800000
	notANumberBits  = 0x7fc00000
	leastNormalBits = 0x00800000

	fullTurn     = 6.283185307179586
	logOfTwo     = 0.6931471805599453
	tenthsPerLog = 43.42944819032518
	// From here on, 64-bit numbers of turns have no places behind the point.
	manyTurns = 1 << 52

	noneText    = "none"
	hexDigits   = 8
	valueDigits = 16
	nameBytes   = 8
)

// SameNumber reports whether two numbers are the same.
func SameNumber(a, b float32) bool { return BitsOf(a) == BitsOf(b) }

// IsFinite reports whether x is finite.
func IsFinite(x float32) bool { return unsignedBits(x) < infinityBits }

// BitsOf returns the bits of a number.
func BitsOf(x float32) int64 {
	if x != x {
		return notANumberBits
	}
	return int64(math.Float32bits(x))
}

// FromBits returns the number with the given bits.
func FromBits(n int64) (float32, bool) {
	if n < 0 || n > math.MaxUint32 {
		return 0, false
	}
	return math.Float32frombits(uint32(n)), true
}

// NarrowNumber returns the nearest 32-bit number.
func NarrowNumber(x float64) float32 { return float32(x) }

// IsSubnormal reports whether x is subnormal.
func IsSubnormal(x float32) bool {
	bits := unsignedBits(x)
	return bits > 0 && bits < leastNormalBits
}

// FlushNumber returns x, but a zero if it is subnormal.
func FlushNumber(x float32) float32 {
	if IsSubnormal(x) {
		return math.Float32frombits(math.Float32bits(x) & signBit)
	}
	return x
}

// SameComplex reports whether two complex numbers are the same.
func SameComplex(a, b complex64) bool {
	return SameNumber(real(a), real(b)) && SameNumber(imag(a), imag(b))
}

// IsFiniteComplex reports whether both parts are finite.
func IsFiniteComplex(x complex64) bool { return IsFinite(real(x)) && IsFinite(imag(x)) }

// NarrowComplex returns a number with narrowed parts.
func NarrowComplex(x complex128) complex64 {
	return complex(NarrowNumber(real(x)), NarrowNumber(imag(x)))
}

// MulComplex returns a product.
func MulComplex(x, y complex64) complex64 { return NarrowComplex(wideProduct(x, y)) }

// ScaleComplex returns a product with a number.
func ScaleComplex(x complex64, by float32) complex64 {
	return complex(float32(real(x)*by), float32(imag(x)*by))
}

// ConjugateOf returns the conjugate.
func ConjugateOf(x complex64) complex64 { return complex(real(x), -imag(x)) }

// PowerOf returns the power.
func PowerOf(x complex64) float32 { return NarrowNumber(widePower(x)) }

// LongOf returns the root of the power.
func LongOf(x complex64) float32 { return NarrowNumber(math.Sqrt(widePower(x))) }

// QuotientOf returns a quotient.
func QuotientOf(x, y complex64) complex64 {
	product := wideProduct(x, ConjugateOf(y))
	power := widePower(y)
	return NarrowComplex(complex(real(product)/power, imag(product)/power))
}

// PhasorOf returns a point of the unit circle.
func PhasorOf(turns float64) complex64 {
	if math.IsNaN(turns) || math.IsInf(turns, 0) {
		return NarrowComplex(complex(math.NaN(), math.NaN()))
	}
	if math.Abs(turns) >= manyTurns {
		return 1
	}
	f := partOfTurn(turns)
	quarters := 0
	for f >= 0.25 {
		f -= 0.25
		quarters++
	}
	c, s := wideSine(0.25-f), wideSine(f)
	// Parts are taken from 0, not negated: a zero stays without a sign.
	switch quarters {
	case 1:
		return NarrowComplex(complex(0-s, c))
	case 2:
		return NarrowComplex(complex(0-c, 0-s))
	case 3:
		return NarrowComplex(complex(s, 0-c))
	}
	return NarrowComplex(complex(c, s))
}

// AngleOf returns the angle in turns.
func AngleOf(x complex64) float32 { return AngleTurns(imag(x), real(x)) }

// SineTurns returns the sine of some turns.
func SineTurns(x float32) float32 {
	if !IsFinite(x) {
		return NarrowNumber(math.NaN())
	}
	turns := float64(x)
	if math.Abs(turns) >= manyTurns {
		return 0
	}
	return NarrowNumber(wideSine(turns))
}

// AngleTurns returns the angle of a point.
func AngleTurns(y, x float32) float32 {
	if !IsFinite(y) || !IsFinite(x) {
		return NarrowNumber(math.NaN())
	}
	if y == 0 && x == 0 {
		return 0
	}
	a, b := math.Abs(float64(y)), math.Abs(float64(x))
	angle := 0.0
	if a > b {
		angle = 0.25 - angleOfRatio(b/a)
	} else {
		angle = angleOfRatio(a / b)
	}
	if x < 0 {
		angle = 0.5 - angle
	}
	if y < 0 {
		angle = -angle
	}
	return NarrowNumber(angle)
}

// TenthsOf returns tenths of decibels.
func TenthsOf(power float32) (int64, bool) {
	if !IsFinite(power) || power <= 0 {
		return 0, false
	}
	tenths := float64(wideLog(float64(power)) * tenthsPerLog)
	return int64(math.Floor(tenths + 0.5)), true
}

// RootNumber returns the square root.
func RootNumber(x float32) float32 { return NarrowNumber(math.Sqrt(float64(x))) }

// ExpNumber returns e to a power.
func ExpNumber(x float32) float32 {
	if x > 200 {
		return NarrowNumber(math.Inf(1))
	}
	if x < -200 {
		return 0
	}
	t := float64(x) / 256
	p := 1.0
	for k := 12; k >= 1; k-- {
		p = 1 + float64(t*p)/float64(k)
	}
	for range 8 {
		p = float64(p * p)
	}
	return NarrowNumber(p)
}

// LogNumber returns the logarithm.
func LogNumber(x float32) float32 {
	wide := float64(x)
	switch {
	case wide == 0:
		return NarrowNumber(math.Inf(-1))
	case math.IsInf(wide, 1):
		return x
	case wide > 0:
		return NarrowNumber(wideLog(wide))
	}
	return NarrowNumber(math.NaN())
}

// SumNumbers returns the sum from left to right.
func SumNumbers(list []float32) (float32, bool) {
	if len(list) > MaxNumbers {
		return 0, false
	}
	var sum float32
	for _, x := range list {
		sum += x
	}
	return sum, true
}

// DotNumbers returns the sum of products.
func DotNumbers(a, b []float32) (float32, bool) {
	if len(a) != len(b) || len(a) > MaxNumbers {
		return 0, false
	}
	var sum float32
	for i, x := range a {
		sum += float32(x * b[i])
	}
	return sum, true
}

// SumComplex returns the sum from left to right.
func SumComplex(list []complex64) (complex64, bool) {
	if len(list) > MaxNumbers {
		return 0, false
	}
	var sum complex64
	for _, x := range list {
		sum = plusComplex(sum, x)
	}
	return sum, true
}

// DotComplex returns the sum of products.
func DotComplex(a, b []complex64) (complex64, bool) {
	if len(a) != len(b) || len(a) > MaxNumbers {
		return 0, false
	}
	var sum complex64
	for i, x := range a {
		sum = plusComplex(sum, MulComplex(x, b[i]))
	}
	return sum, true
}

// DotConjugate returns the sum of products with conjugates.
func DotConjugate(a, b []complex64) (complex64, bool) {
	if len(a) != len(b) || len(a) > MaxNumbers {
		return 0, false
	}
	var sum complex64
	for i, x := range a {
		sum = plusComplex(sum, MulComplex(ConjugateOf(x), b[i]))
	}
	return sum, true
}

// PowersOf returns the sum of powers.
func PowersOf(list []complex64) (float32, bool) {
	if len(list) > MaxNumbers {
		return 0, false
	}
	sum := 0.0
	for _, x := range list {
		sum += widePower(x)
	}
	return NarrowNumber(sum), true
}

// NumbersText returns the text of numbers.
func NumbersText(list []float32) (string, bool) { return textOf(list, MaxNumbers, numberWord) }

// ReadNumbers returns the numbers with the given text.
func ReadNumbers(s string) ([]float32, bool) { return readText(s, MaxNumbers, readNumber) }

// ComplexText returns the text of complex numbers.
func ComplexText(list []complex64) (string, bool) { return textOf(list, MaxNumbers, complexWord) }

// ReadComplex returns the complex numbers with the given text.
func ReadComplex(s string) ([]complex64, bool) { return readText(s, MaxNumbers, readComplexWord) }

// IsName reports whether s is a name.
func IsName(s string) bool {
	if len(s) < 1 || len(s) > nameBytes {
		return false
	}
	for _, r := range s {
		if r < 'a' || r > 'z' {
			return false
		}
	}
	return true
}

// Decimal returns n in decimal.
func Decimal(n int64) string { return strconv.FormatInt(n, 10) }

// ReadDecimal returns the number with the given decimal text.
func ReadDecimal(s string) (int64, bool) {
	digits, negative := strings.CutPrefix(s, "-")
	if len(digits) > valueDigits {
		return 0, false
	}
	var n int64
	for _, r := range digits {
		if r < '0' || r > '9' {
			return 0, false
		}
		n = 10*n + int64(r-'0')
	}
	if negative {
		n = -n
	}
	// Texts that no number has, as that of no digits, 00 and -0, read as others.
	if !isValue(n) || Decimal(n) != s {
		return 0, false
	}
	return n, true
}

// ListText returns the text of a list.
func ListText(list []int64) (string, bool) { return textOf(list, MaxItems, valueWord) }

// ReadList returns the list with the given text.
func ReadList(s string) ([]int64, bool) { return readText(s, MaxItems, ReadDecimal) }

// CheckOf returns the check number of a text.
func CheckOf(start int64, s string) (int64, bool) {
	if start < 0 || start >= CheckSize {
		return 0, false
	}
	check := start
	for i := range len(s) {
		check = (827*check + int64(s[i]) + 127) % CheckSize
	}
	return check, true
}

// allOf reports whether all of a list are as told.
func allOf[T any](list []T, is func(x T) bool) bool {
	return !slices.ContainsFunc(list, func(x T) bool { return !is(x) })
}

// unsignedBits returns the bits of the absolute value of a number.
func unsignedBits(x float32) int64 { return BitsOf(x) &^ signBit }

// exactProduct returns a product of 32-bit numbers, which needs no rounding.
func exactProduct(a, b float32) float64 { return float64(float64(a) * float64(b)) }

// wideProduct returns a product with 64-bit parts.
func wideProduct(x, y complex64) complex128 {
	return complex(
		exactProduct(real(x), real(y))-exactProduct(imag(x), imag(y)),
		exactProduct(real(x), imag(y))+exactProduct(imag(x), real(y)))
}

// widePower returns the power as a 64-bit number.
func widePower(x complex64) float64 {
	return exactProduct(real(x), real(x)) + exactProduct(imag(x), imag(x))
}

// plusComplex returns the sum of two complex numbers.
func plusComplex(x, y complex64) complex64 {
	return complex(real(x)+real(y), imag(x)+imag(y))
}

// partOfTurn returns what is left of less than manyTurns turns without the
// whole ones, from 0 to 1.
func partOfTurn(turns float64) float64 {
	// An integer has no negative zero, so -0 less its whole turns is -0.
	f := turns - float64(int64(turns))
	if f < 0 {
		f++
	}
	return f
}

// wideSine returns the sine of less than manyTurns turns as a 64-bit number.
func wideSine(turns float64) float64 {
	f := partOfTurn(turns)
	turned := f >= 0.5
	if turned {
		f -= 0.5
	}
	if f > 0.25 {
		f = 0.5 - f
	}
	z := float64(f * fullTurn)
	u := float64(z * z)
	p := 1.0
	for k := 8; k >= 1; k-- {
		p = 1 - float64(u*p)/float64(2*k*(2*k+1))
	}
	if turned {
		return -float64(z * p)
	}
	return float64(z * p)
}

// angleOfRatio returns the turns of an angle with a tangent from 0 to 1.
func angleOfRatio(t float64) float64 {
	for range 3 {
		t /= 1 + math.Sqrt(1+float64(t*t))
	}
	u := float64(t * t)
	p := 0.0
	for k := 15; k >= 1; k -= 2 {
		p = 1/float64(k) - float64(u*p)
	}
	return float64(8*float64(t*p)) / fullTurn
}

// wideLog returns the logarithm of a finite number greater than 0 as a 64-bit
// number.
func wideLog(x float64) float64 {
	halved := 0
	for ; x >= 1.5; halved++ {
		x /= 2
	}
	for ; x < 0.75; halved-- {
		x *= 2
	}
	s := (x - 1) / (x + 1)
	u := float64(s * s)
	q := 0.0
	for k := 25; k >= 1; k -= 2 {
		q = 1/float64(k) + float64(u*q)
	}
	return float64(2*float64(s*q)) + float64(float64(halved)*logOfTwo)
}

// textOf returns the words of at most most items, or none.
func textOf[T any](list []T, most int, wordOf func(T) (string, bool)) (string, bool) {
	if len(list) > most {
		return "", false
	}
	if len(list) == 0 {
		return noneText, true
	}
	words := make([]string, len(list))
	for i, item := range list {
		word, ok := wordOf(item)
		if !ok {
			return "", false
		}
		words[i] = word
	}
	return strings.Join(words, ","), true
}

// readText returns the at most most items whose textOf is s.
func readText[T any](s string, most int, read func(string) (T, bool)) ([]T, bool) {
	if s == noneText {
		return nil, true
	}
	if strings.Count(s, ",") >= most {
		return nil, false
	}
	words := strings.Split(s, ",")
	list := make([]T, len(words))
	for i, word := range words {
		item, ok := read(word)
		if !ok {
			return nil, false
		}
		list[i] = item
	}
	return list, true
}

// numberWord returns the digits of a number.
func numberWord(x float32) (string, bool) {
	digits := strconv.FormatInt(BitsOf(x), 16)
	return strings.Repeat("0", hexDigits-len(digits)) + digits, true
}

// readNumber returns the number with the given digits.
func readNumber(word string) (float32, bool) {
	if len(word) != hexDigits {
		return 0, false
	}
	var n int64
	for _, r := range word {
		digit, ok := readDigit(r)
		if !ok {
			return 0, false
		}
		n = 16*n + digit
	}
	x, ok := FromBits(n)
	// Of all bits of not-a-numbers, a text has only those of BitsOf.
	if !ok || BitsOf(x) != n {
		return 0, false
	}
	return x, true
}

// readDigit returns the value of a hexadecimal digit.
func readDigit(r rune) (int64, bool) {
	switch {
	case r >= '0' && r <= '9':
		return int64(r - '0'), true
	case r >= 'a' && r <= 'f':
		return int64(r-'a') + 10, true
	}
	return 0, false
}

// complexWord returns the digits of both parts of a complex number.
func complexWord(x complex64) (string, bool) {
	a, _ := numberWord(real(x))
	b, _ := numberWord(imag(x))
	return a + b, true
}

// readComplexWord returns the complex number with the given digits.
func readComplexWord(word string) (complex64, bool) {
	if len(word) != 2*hexDigits {
		return 0, false
	}
	a, one := readNumber(word[:hexDigits])
	b, two := readNumber(word[hexDigits:])
	if !one || !two {
		return 0, false
	}
	return complex(a, b), true
}

// valueWord returns the decimal of a number that a list can have.
func valueWord(n int64) (string, bool) { return Decimal(n), isValue(n) }

// isValue reports whether n is from -MaxValue to MaxValue.
func isValue(n int64) bool { return n >= -MaxValue && n <= MaxValue }
