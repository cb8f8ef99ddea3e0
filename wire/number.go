package wire

// lengthCode: the first two bits of a number in its shortest length, which is 1<<lengthCode bytes.
func lengthCode(n uint64) int {
	switch {
	case n < 1<<6:
		return 0
	case n < 1<<14:
		return 1
	case n < 1<<30:
		return 2
	}
	return 3
}

// appendNumber writes n, which is below 1<<62, as short as can be.
func appendNumber(b []byte, n uint64) []byte {
	code := lengthCode(n)
	bits := 8 << code
	n |= uint64(code) << (bits - 2)
	for bits > 0 {
		bits -= 8
		b = append(b, byte(n>>bits))
	}
	return b
}
