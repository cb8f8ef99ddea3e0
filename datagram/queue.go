// Package datagram: datagrams, for the side that sends them (Queue) and for the side to which they come (Inbox).
package datagram

import (
	"slices"

	"mediawire/api"
	"mediawire/wire"
)

// Queue is the datagrams of a side that wait to be sent (P18).
type Queue struct {
	waiting []api.Frame
	least   uint64 // the next one's id must not be below it
}

// Add: a datagram of most bytes at the most waits behind the others.
func (q *Queue) Add(id uint64, deadline uint64, b []byte, most int) error {
	switch {
	case max(id, deadline) > api.MaxValue, id < q.least:
		return api.ErrOrder
	case len(b) > most:
		return api.ErrBig
	case len(q.waiting) >= api.MaxQueue:
		return api.ErrFull
	}
	q.least = id + 1
	q.waiting = append(q.waiting, api.Frame{Kind: api.Datagram, Id: id, Deadline: deadline, Data: string(b)})
	return nil
}

// Expire: at this tick those with a deadline below it are worth nothing any more.
func (q *Queue) Expire(tick uint64) {
	q.waiting = slices.DeleteFunc(q.waiting, func(f api.Frame) bool { return f.Deadline < tick })
}

// Waits: one is to be sent.
func (q *Queue) Waits() bool { return len(q.waiting) > 0 }

// Size: the bytes of the frame of the first one; 0, if none waits.
func (q *Queue) Size() int {
	if !q.Waits() {
		return 0
	}
	return wire.Size(q.waiting[0])
}

// Next: the frame of the first one, which no longer waits; false, if it has no room.
func (q *Queue) Next(room int) (api.Frame, bool) {
	if q.Size() > room {
		return api.Frame{}, false
	}
	f := q.waiting[0]
	q.waiting = slices.Delete(q.waiting, 0, 1)
	return f, true
}
