package code

import (
	"bytes"
	"math"
	"testing"
)

func TestNumbers(t *testing.T) {
	for _, n := range []uint64{0, 1, 255, 256, 399, 1<<32 + 5, math.MaxUint64, 0x0102030405060708} {
		for width := 0; width <= 8; width++ {
			b := Append([]byte{9}, n, width)
			low := n
			if width < 8 {
				low = n % (1 << (8 * width))
			}
			if len(b) != 1+width || b[0] != 9 || Number(b[1:]) != low {
				t.Errorf("%d bytes of the number %d are written as %v, read as %d", width, n, b, Number(b[1:]))
			}
		}
	}
	if b := Append(nil, 0x0102, 2); !bytes.Equal(b, []byte{2, 1}) {
		t.Errorf("the lowest byte is not the first: %v", b)
	}
}

func TestSum(t *testing.T) {
	for s, want := range map[string]uint64{"": 0xcbf29ce484222325, "a": 0xaf63dc4c8601ec8c, "foobar": 0x85944171f73967e8} {
		if got := Sum([]byte(s)); got != want {
			t.Errorf("the sum of %q: %x, want %x", s, got, want)
		}
	}
}

// P13: one bit turned is always seen.
func TestSumOfBits(t *testing.T) {
	b := []byte("shadow\x00\x00\xff\xffkeys and values on a device, changed by transactions")
	sum := Sum(b)
	for i := range 8 * len(b) {
		b[i/8] ^= 1 << (i % 8)
		if Sum(b) == sum {
			t.Errorf("P13: bit %d turned leaves the sum as it was", i)
		}
		b[i/8] ^= 1 << (i % 8)
	}
}
