// Package code has how numbers lie on a device, and the sums by which what lies there is known again.
package code

// Number reads a number of all these bytes, the lowest first.
func Number(b []byte) uint64 {
	var n uint64
	for i := len(b) - 1; i >= 0; i-- {
		n = n<<8 | uint64(b[i])
	}
	return n
}

// Append writes so many bytes of a number behind others, the lowest first.
func Append(b []byte, n uint64, bytes int) []byte {
	for range bytes {
		b = append(b, byte(n))
		n >>= 8
	}
	return b
}

// Sum is FNV-1a: each of its steps can be undone, so no change of a single byte leaves it as it was. Of bytes that differ in more it tells nothing for sure: others with the same sum are found soon.
func Sum(b []byte) uint64 {
	s := uint64(14695981039346656037)
	for _, x := range b {
		s = (s ^ uint64(x)) * 1099511628211
	}
	return s
}
