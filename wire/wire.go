// Package wire: packets as bytes (P3 to P5).
package wire

import "mediawire/api"

// Encode writes a packet (P3, P4).
func Encode(p api.Packet) ([]byte, error) {
	if !soundPacket(p) {
		return nil, api.ErrFrame
	}
	b := appendNumber(nil, p.Number)
	for i := range p.Frames {
		f := &p.Frames[i]
		b = layoutOf(f.Kind).write(b, f)
	}
	return appendSum(b), nil
}

// Decode reads a packet (P5).
func Decode(b []byte) (api.Packet, error) {
	body, ok := cutSum(b)
	if !ok {
		return api.Packet{}, api.ErrSum
	}
	return readPacket(body)
}

// readPacket is where a fault that a reader throws is caught: the layouts need not hand it up part by part.
func readPacket(body []byte) (p api.Packet, err error) {
	defer func() {
		switch thrown := recover().(type) {
		case nil:
		case *api.Fault:
			p, err = api.Packet{}, thrown
		default:
			panic(thrown) // no fault of the bytes: to hide it would answer a wrong packet
		}
	}()
	r := &reader{bytes: body}
	p.Number = r.number()
	if r.ended() {
		r.fail()
	}
	for !r.ended() {
		p.Frames = append(p.Frames, r.frame())
	}
	return p, nil
}
