package isa

// How many bytes a short form and a word have.
const (
	HalfSize = 2
	WordSize = 4
)

// Bytes tells the low bytes of a number as they lie in memory.
func Bytes(number, count int) string {
	var bytes []byte
	for range count {
		bytes = append(bytes, byte(number))
		number >>= 8
	}
	return string(bytes)
}

// Number tells the number that lies in memory as these bytes.
func Number(bytes string) int {
	number := 0
	for at := range len(bytes) {
		number |= int(bytes[at]) << (8 * at)
	}
	return number
}
