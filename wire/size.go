package wire

import "mediawire/api"

// Room: the bytes that a packet of that number, of mtu bytes at the most, has for its frames.
func Room(mtu int, number uint64) int {
	return mtu - len(appendNumber(nil, number)) - sumSize
}

// Size: the bytes of a frame that P4 has nothing against.
func Size(f api.Frame) int {
	return len(layoutOf(f.Kind).write(nil, &f))
}

// Fill: the frame (which has no bytes yet) with as many of the bytes, from the first on, as it can have within room; false, if there is no room for the frame itself.
func Fill(f api.Frame, b []byte, room int) (api.Frame, bool) {
	room -= Size(f)
	if room < 0 {
		return api.Frame{}, false
	}
	n := min(len(b), room)
	longer := len(appendNumber(nil, uint64(n))) - 1 // Size has counted one byte of how many there are
	f.Data = string(b[:min(n, room-longer)])
	return f, true
}
