package impl

const MaxText = 400
const RuneBad = 65533
const RuneMost = 1114111

// The longest rune has so many bytes: no more need be looked at to know one.
const longestRune = 4

// No rune may be from lowestHalf to highestHalf: these numbers stand for halves of runes elsewhere.
const lowestHalf = 55296
const highestHalf = 57343

// noughts has each script's 0; a script's other digits follow it in order.
var noughts = [5]int{48, 1632, 1776, 2406, 65296}

func RuneAt(b []byte, at int) (int, int) {
	if at < 0 || at >= len(b) {
		return 0, 0
	}
	piece := string(b[at:min(len(b), at+longestRune)])
	first := 0
	for i, r := range piece {
		if i > 0 {
			return first, i
		}
		first = int(r)
	}
	return first, len(piece)
}

func Runes(b []byte) []int {
	if len(b) > MaxText {
		return nil
	}
	var list []int
	for _, r := range string(b) {
		list = append(list, int(r))
	}
	return list
}

func RuneBytes(r int) []byte {
	if !runeMayBe(r) {
		return nil
	}
	return []byte(string(rune(r)))
}

func runeMayBe(r int) bool {
	return r >= 0 && r <= RuneMost && (r < lowestHalf || r > highestHalf)
}

func Clean(b []byte) bool {
	if len(b) > MaxText {
		return false
	}
	for i, r := range string(b) {
		if r != RuneBad {
			continue
		}
		// RuneBad may also be written out, in three bytes, and is a rune like others then.
		if _, width := RuneAt(b, i); width == 1 {
			return false
		}
	}
	return true
}

func DigitOf(r int) int {
	for _, nought := range noughts {
		if r >= nought && r <= nought+9 {
			return r - nought
		}
	}
	return -1
}

func SignOf(r int) int {
	switch r {
	case 43, 65291:
		return 1
	case 45, 8722, 65293:
		return -1
	}
	return 0
}

func IsBlank(r int) bool {
	switch r {
	case 9, 32, 160, 8201, 12288:
		return true
	}
	return false
}

func Plain(b []byte) []byte {
	var plain []byte
	for _, r := range Runes(b) {
		plain = append(plain, RuneBytes(plainRune(r))...)
	}
	return plain
}

func plainRune(r int) int {
	if digit := DigitOf(r); digit >= 0 {
		return '0' + digit
	}
	if IsBlank(r) {
		return ' '
	}
	switch SignOf(r) {
	case 1:
		return '+'
	case -1:
		return '-'
	}
	return r
}
