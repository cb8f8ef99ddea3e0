package datagram

import (
	"testing"

	"mediawire/api"
	"mediawire/wire"
)

func TestP18RoomOfTheFirst(t *testing.T) {
	var q Queue
	if q.Size() != 0 || q.Waits() {
		t.Errorf("P18: a queue of nothing: %d bytes", q.Size())
	}
	if err := q.Add(64, 3, []byte("abc"), 3); err != nil {
		t.Fatal(err)
	}
	if err := q.Add(65, 3, nil, 3); err != nil {
		t.Fatal(err)
	}
	size := wire.Size(q.waiting[0])
	if _, ok := q.Next(size - 1); ok || q.Size() != size {
		t.Errorf("P18: the first goes with %d bytes, and has %d", size-1, size)
	}
	if f, ok := q.Next(size); !ok || f.Kind != api.Datagram || f.Id != 64 || q.Size() != size-3 {
		t.Errorf("P18: %+v, %t", f, ok)
	}
}
