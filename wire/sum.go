package wire

// sumSize: the bytes of the sum behind a packet.
const sumSize = 4

// nibbleSums: what four bits that leave the CRC-32 of IEEE 802.3 (the lowest bit first, 0xedb88320) turn in it.
var nibbleSums = [16]uint32{
	0x00000000, 0x1db71064, 0x3b6e20c8, 0x26d930ac,
	0x76dc4190, 0x6b6b51f4, 0x4db26158, 0x5005713c,
	0xedb88320, 0xf00f9344, 0xd6d6a3e8, 0xcb61b38c,
	0x9b64c2b0, 0x86d3d2d4, 0xa00ae278, 0xbdbdf21c,
}

func sum(b []byte) uint32 {
	c := ^uint32(0)
	for _, x := range b {
		c ^= uint32(x)
		c = c>>4 ^ nibbleSums[c&15]
		c = c>>4 ^ nibbleSums[c&15]
	}
	return ^c
}

func appendSum(b []byte) []byte {
	c := sum(b)
	return append(b, byte(c>>24), byte(c>>16), byte(c>>8), byte(c))
}

// cutSum: the bytes ahead of the sum, if it is theirs.
func cutSum(b []byte) ([]byte, bool) {
	cut := len(b) - sumSize
	if cut < 0 {
		return nil, false
	}
	var told uint32
	for _, x := range b[cut:] {
		told = told<<8 | uint32(x)
	}
	return b[:cut], told == sum(b[:cut])
}
