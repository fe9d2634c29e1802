package impl

import (
	"strconv"
	"strings"
)

// numberDigits is the length of the largest number, 999999999999. Any longer
// text is refused unread, so that reading cannot overflow.
const numberDigits = 12

const hexDigits = "0123456789abcdef"

func Digits(n int) string { return strconv.Itoa(n) }

func Number(s string) (n int, ok bool) {
	defer func() {
		if recover() != nil {
			n, ok = 0, false
		}
	}()
	return numberIn(s), true
}

// numberIn panics if s is not a number, so that the loop needs no second
// result; Number recovers.
func numberIn(s string) int {
	if s == "" || len(s) > numberDigits {
		panic("not a number: length")
	}
	// Digits never writes a leading zero, except for 0 itself.
	if s[0] == '0' && len(s) > 1 {
		panic("not a number: leading zero")
	}
	n := 0
	for i := 0; i < len(s); i++ {
		n = n*10 + digitIn(s[i])
	}
	return n
}

func digitIn(c byte) int {
	if c < '0' || c > '9' {
		panic("not a number: not a digit")
	}
	return int(c - '0')
}

func Hex(s string) string {
	out := make([]byte, 0, 2*len(s))
	for i := 0; i < len(s); i++ {
		out = append(out, hexDigits[s[i]>>4], hexDigits[s[i]&15])
	}
	return string(out)
}

func Unhex(s string) (string, bool) {
	if len(s)%2 != 0 {
		return "", false
	}
	out := make([]byte, 0, len(s)/2)
	for i := 0; i < len(s); i += 2 {
		high := strings.IndexByte(hexDigits, s[i])
		low := strings.IndexByte(hexDigits, s[i+1])
		if high < 0 || low < 0 {
			return "", false
		}
		out = append(out, byte(high<<4|low))
	}
	return string(out), true
}

func Parts(s string, by byte) []string {
	// string(by) would be the UTF-8 text of a character, two bytes from 128 on.
	return strings.Split(s, string([]byte{by}))
}

func Joined(list []string, by string) string { return strings.Join(list, by) }
