package impl

import (
	"math"
	"strconv"
	"strings"
)

// Codes of errors.
const (
	OK          = 0
	ErrInvalid  = 1
	ErrRange    = 2
	ErrLimit    = 3
	ErrState    = 4
	ErrSyntax   = 5
	ErrNotFound = 6
	ErrBudget   = 7
	ErrProof    = 8
)

// Limits of numbers, angles and hours.
const (
	MaxSize = 1048576
	Turn    = 256
	Hours   = 24
)

// A quarter of a turn is also the height straight above.
const quarter = Turn / 4

// Every NaN is told by these bits.
const nanBits = 0x7fc00000

// Sun tells where it stands, hour by hour.
type Sun struct {
	Height [24]int16
	Turns  [24]int16
}

// angle is one of the angles 0 to 255 of a turn.
type angle int16

// CodeName returns the name of an error code.
func CodeName(code int64) string {
	names := [...]string{"ok", "invalid", "range", "limit", "state", "syntax", "notfound", "budget", "proof"}
	if code < OK || code > ErrProof {
		return ""
	}
	return names[code]
}

// SameNumber reports whether two numbers are the same.
func SameNumber(a, b float32) bool { return numberBits(a) == numberBits(b) }

// IsPlain reports whether a number is plain.
func IsPlain(a float32) bool { return a >= -MaxSize && a <= MaxSize }

// IsPart reports whether a number is a part.
func IsPart(a float32) bool { return a >= 0 && a <= 1 }

// SineOf returns the sine of an angle.
func SineOf(angle int64) float32 { return angleOf(angle).sine() }

// CosineOf returns the cosine of an angle.
func CosineOf(angle int64) float32 { return angleOf(angle).cosine() }

// ValidSun reports whether a sun is valid.
func ValidSun(s Sun) bool {
	return held(s.Height, -quarter, quarter) == s.Height && held(s.Turns, 0, Turn-1) == s.Turns
}

// SameSun reports whether two suns are equal.
func SameSun(a, b Sun) bool { return a == b }

// IsUp reports whether the sun is up at an hour.
func IsUp(s Sun, hour int64) (bool, int64) {
	if code := checkSun(s, isHour(hour)); code != OK {
		return false, code
	}
	return upAt(s, hour), OK
}

// GroundLight returns the light on the ground at an hour.
func GroundLight(s Sun, hour int64) (float32, int64) {
	if code := checkSun(s, isHour(hour)); code != OK {
		return 0, code
	}
	return groundAt(s, hour), OK
}

// FallOn returns the light on a window at an hour.
func FallOn(s Sun, hour, facing int64) (float32, int64) {
	if code := checkSun(s, isHour(hour) && isFacing(facing)); code != OK {
		return 0, code
	}
	return fallAt(s, hour, facing), OK
}

// GroundDay returns the light on the ground of a day.
func GroundDay(s Sun) (float32, int64) {
	if code := checkSun(s, true); code != OK {
		return 0, code
	}
	var sum float32
	for hour := range eachHour {
		sum += groundAt(s, hour)
	}
	return sum, OK
}

// FallDay returns the light on a window of a day.
func FallDay(s Sun, facing int64) (float32, int64) {
	if code := checkSun(s, isFacing(facing)); code != OK {
		return 0, code
	}
	return fallOver(s, facing), OK
}

// BestHour returns the hour with the most light on a window.
func BestHour(s Sun, facing int64) (int64, float32, int64) {
	if code := checkSun(s, isFacing(facing)); code != OK {
		return 0, 0, code
	}
	// No light is less than 0, so that the first hour is best if there is none.
	var best int64
	var most float32
	for hour := range eachHour {
		if light := fallAt(s, hour, facing); light > most {
			best, most = hour, light
		}
	}
	return best, most, OK
}

// BestFacing returns the facing with the most light of a day.
func BestFacing(s Sun) (int64, float32, int64) {
	if code := checkSun(s, true); code != OK {
		return 0, 0, code
	}
	var best int64
	var most float32
	// Windows that see the same of the sun, such as all those behind which it stands, share one sum.
	sums := map[Sun]float32{}
	for facing := range int64(Turn) {
		seen := seenFrom(s, facing)
		sum, known := sums[seen]
		if !known {
			sum = fallOver(seen, 0)
			sums[seen] = sum
		}
		if sum > most {
			best, most = facing, sum
		}
	}
	return best, most, OK
}

// SunHours returns all hours with enough light on a window.
func SunHours(s Sun, facing int64, least float32) ([]int64, int64) {
	if code := checkSun(s, isFacing(facing) && IsPart(least)); code != OK {
		return nil, code
	}
	var found []int64
	for hour := range eachHour {
		if fallAt(s, hour, facing) >= least {
			found = append(found, hour)
		}
	}
	return found, OK
}

// MirrorSun exchanges morning and evening.
func MirrorSun(s Sun) (Sun, int64) {
	if code := checkSun(s, true); code != OK {
		return Sun{}, code
	}
	var mirror Sun
	for hour := range eachHour {
		from := Hours - 1 - hour
		mirror.Height[hour] = s.Height[from]
		mirror.Turns[hour] = int16(angleOf(-int64(s.Turns[from])))
	}
	return mirror, OK
}

// LaterSun returns the sun that is later by some hours.
func LaterSun(s Sun, hours int64) (Sun, int64) {
	if code := checkSun(s, isHour(hours)); code != OK {
		return Sun{}, code
	}
	var later Sun
	for hour := range eachHour {
		from := (hour - hours + Hours) % Hours
		later.Height[hour] = s.Height[from]
		later.Turns[hour] = s.Turns[from]
	}
	return later, OK
}

// NumberText returns the text of a number.
func NumberText(a float32) string {
	digits := strconv.FormatUint(uint64(numberBits(a)), 16)
	return strings.Repeat("0", 8-len(digits)) + digits
}

// ReadNumber returns the number with a text.
func ReadNumber(text string) (float32, int64) {
	bits, err := strconv.ParseUint(text, 16, 32)
	number := math.Float32frombits(uint32(bits))
	// Texts of fewer or greater digits, and those of another NaN, are not what is written.
	if err != nil || NumberText(number) != text {
		return 0, ErrSyntax
	}
	return number, OK
}

// SunText returns the text of a sun.
func SunText(s Sun) string {
	if !ValidSun(s) {
		return ""
	}
	parts := make([]string, Hours)
	for hour := range eachHour {
		parts[hour] = wholeText(s.Height[hour]) + "@" + wholeText(s.Turns[hour])
	}
	return strings.Join(parts, " ")
}

// ReadSun returns the sun with a text.
func ReadSun(text string) (Sun, int64) {
	// One part more than there are hours is enough to see that a text is too long.
	parts := strings.SplitN(text, " ", Hours+1)
	if len(parts) != Hours {
		return Sun{}, ErrSyntax
	}
	var s Sun
	for hour := range eachHour {
		height, turn, _ := strings.Cut(parts[hour], "@")
		var highRead, turnRead bool
		s.Height[hour], highRead = readWhole(height)
		s.Turns[hour], turnRead = readWhole(turn)
		if !highRead || !turnRead {
			return Sun{}, ErrSyntax
		}
	}
	if !ValidSun(s) {
		return Sun{}, ErrSyntax
	}
	return s, OK
}

// angleOf brings a number into one turn.
func angleOf(number int64) angle { return angle((number%Turn + Turn) % Turn) }

// sine looks up the quarter of the turn in which an angle is.
func (a angle) sine() float32 {
	quarters := [4]func(angle) float32{angle.firstSine, angle.secondSine, angle.thirdSine, angle.fourthSine}
	// Two quarters that meet at an angle give it the same sine, so that it may be looked up in the later one.
	return quarters[a/quarter](a)
}

// cosine is the sine of a quarter more.
func (a angle) cosine() float32 { return angleOf(int64(a) + quarter).sine() }

// firstSine is the only sine that is computed; conversions keep products from being fused with differences.
func (a angle) firstSine() float32 {
	x := float32(a) / quarter
	y := float32(x * x)
	p := 0.642578125 - float32(y*0.072265625)
	q := 1.5703125 - float32(y*p)
	return float32(x * q)
}

// secondSine is the sine of an angle from 65 to 128.
func (a angle) secondSine() float32 { return (2*quarter - a).firstSine() }

// thirdSine is the sine of an angle from 129 to 192.
func (a angle) thirdSine() float32 { return 0 - (a - 2*quarter).firstSine() }

// fourthSine is the sine of an angle from 193 to 255.
func (a angle) fourthSine() float32 { return 0 - (4*quarter - a).firstSine() }

// eachHour yields the hours of a day, so that all sums are made in their order.
func eachHour(yield func(int64) bool) {
	for hour := range int64(Hours) {
		if !yield(hour) {
			return
		}
	}
}

// checkSun returns the error of a function of a sun, the other arguments of which are in their ranges or not.
func checkSun(s Sun, inRange bool) int64 {
	if !ValidSun(s) {
		return ErrInvalid
	}
	if !inRange {
		return ErrRange
	}
	return OK
}

func isHour(hour int64) bool { return hour >= 0 && hour < Hours }

func isFacing(facing int64) bool { return facing >= 0 && facing < Turn }

// held brings each number of a day between two bounds.
func held(list [24]int16, low, high int16) [24]int16 {
	for hour := range eachHour {
		list[hour] = min(max(list[hour], low), high)
	}
	return list
}

// upAt is IsUp of a valid sun.
func upAt(s Sun, hour int64) bool { return s.Height[hour] > 0 }

// groundAt is GroundLight of a valid sun.
func groundAt(s Sun, hour int64) float32 {
	if !upAt(s, hour) {
		return 0
	}
	return angle(s.Height[hour]).sine()
}

// fallAt is FallOn of a valid sun.
func fallAt(s Sun, hour, facing int64) float32 {
	if !upAt(s, hour) {
		return 0
	}
	apart := angleOf(int64(s.Turns[hour]) - facing)
	light := float32(angle(s.Height[hour]).cosine() * apart.cosine())
	// A product of -0 is no light either, and 0 is returned for it.
	if light <= 0 {
		return 0
	}
	return light
}

// fallOver is FallDay of a valid sun.
func fallOver(s Sun, facing int64) float32 {
	var sum float32
	for hour := range eachHour {
		sum += fallAt(s, hour, facing)
	}
	return sum
}

// seenFrom returns what a window sees of a sun: turned so that the window is faced to 0, and without the hours
// in which the sun is not up or stands behind the window, which give no light.
func seenFrom(s Sun, facing int64) Sun {
	var seen Sun
	for hour := range eachHour {
		apart := angleOf(int64(s.Turns[hour]) - facing)
		if upAt(s, hour) && (apart < quarter || apart > 3*quarter) {
			seen.Height[hour] = s.Height[hour]
			seen.Turns[hour] = int16(apart)
		}
	}
	return seen
}

// numberBits returns the bits of a number, which are equal for numbers that are the same.
func numberBits(a float32) uint32 {
	if a != a {
		return nanBits
	}
	return math.Float32bits(a)
}

// sizeOf returns the size of a number.
func sizeOf(a float32) float32 {
	if a < 0 {
		return 0 - a
	}
	return a
}

// wholeText returns the decimal text of a whole number.
func wholeText(number int16) string { return strconv.FormatInt(int64(number), 10) }

// readWhole reads a decimal text, and refuses other spellings of the same number, such as +1, 01 and -0.
func readWhole(text string) (int16, bool) {
	number, err := strconv.ParseInt(text, 10, 16)
	if err != nil || wholeText(int16(number)) != text {
		return 0, false
	}
	return int16(number), true
}
