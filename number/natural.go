package number

import (
	"cmp"
	"math/bits"
)

// natural is a whole number from 0 on that may have any size: digits of 64 bits, the lowest one first, the last one not 0.
type natural []uint64

// times multiplies n in its own memory, as append does.
func (n natural) times(by uint64) natural {
	if by == 0 {
		return n[:0]
	}
	carry := uint64(0)
	for i, digit := range n {
		high, low := bits.Mul64(digit, by)
		sum, over := bits.Add64(low, carry, 0)
		n[i] = sum
		carry = high + over
	}
	if carry > 0 {
		n = append(n, carry)
	}
	return n
}

// timesPower multiplies n by so many factors in its own memory. As many of them as fit into a digit are multiplied together first.
func (n natural) timesPower(factor uint64, count int) natural {
	pack := uint64(1)
	for range count {
		over, next := bits.Mul64(pack, factor)
		if over > 0 {
			n = n.times(pack)
			next = factor
		}
		pack = next
	}
	return n.times(pack)
}

// compare returns -1, 0 or 1 as n is less than, equal to, or greater than m.
func (n natural) compare(m natural) int {
	if len(n) != len(m) {
		return cmp.Compare(len(n), len(m))
	}
	for i := len(n) - 1; i >= 0; i-- {
		if n[i] != m[i] {
			return cmp.Compare(n[i], m[i])
		}
	}
	return 0
}
