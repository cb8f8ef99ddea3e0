package wire

import "mediawire/api"

// The first bytes of frames: neighbours are counted on, the others stand alone.
const (
	pingByte byte = iota + 0x01
	ackByte
)

const (
	dataByte byte = iota + 0x08
	dataFinByte
)

const (
	maxDataByte byte = iota + 0x10
	maxStreamByte
)

const (
	closeByte    byte = 0x1c
	resetAtByte  byte = 0x24
	datagramByte byte = 0x30
)

// kindOf: the kind of the frames that begin with a byte; 0 if there is none.
func kindOf(first byte) int {
	switch first {
	case pingByte:
		return api.Ping
	case ackByte:
		return api.Ack
	case resetAtByte:
		return api.ResetAt
	case dataByte, dataFinByte:
		return api.Data
	case maxDataByte:
		return api.MaxData
	case maxStreamByte:
		return api.MaxStream
	case datagramByte:
		return api.Datagram
	case closeByte:
		return api.Close
	}
	return 0
}

// layout is how a kind of frame, or a part of one, is written and read. Both stand in one value, so that they can't part ways.
type layout struct {
	write func(b []byte, f *api.Frame) []byte
	read  func(r *reader, f *api.Frame)
}

// layoutOf: how the frames of a kind are laid out, in the order of P3. (Nothing, of a kind that is none.)
func layoutOf(kind int) layout {
	switch kind {
	case api.Ping:
		return first(pingByte)
	case api.Ack:
		return inOrder(first(ackByte), ranges())
	case api.ResetAt:
		return inOrder(first(resetAtByte), stream(), number(offset), number(reliable))
	case api.Data:
		return inOrder(firstOfData(), stream(), number(offset), text())
	case api.MaxData:
		return inOrder(first(maxDataByte), number(limit))
	case api.MaxStream:
		return inOrder(first(maxStreamByte), stream(), number(limit))
	case api.Datagram:
		return inOrder(first(datagramByte), number(id), number(deadline), text())
	case api.Close:
		return inOrder(first(closeByte), number(limit))
	}
	return inOrder()
}

func inOrder(parts ...layout) layout {
	return layout{
		write: func(b []byte, f *api.Frame) []byte {
			for _, p := range parts {
				b = p.write(b, f)
			}
			return b
		},
		read: func(r *reader, f *api.Frame) {
			for _, p := range parts {
				p.read(r, f)
			}
		},
	}
}
