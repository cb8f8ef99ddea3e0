package mediawire_test

import (
	"encoding/hex"
	"errors"
	"reflect"
	"slices"
	"strings"
	"testing"

	"mediawire/api"
	"mediawire/mediawire"
)

func TestP5NumbersInGreaterLengths(t *testing.T) {
	for _, c := range []struct {
		number string
		want   uint64
	}{
		{"05", 5}, {"4005", 5}, {"80000005", 5}, {"c000000000000005", 5},
		{"4000", 0}, {"80000000", 0}, {"c000000000000000", 0},
		{"403f", 1<<6 - 1}, {"80000040", 1 << 6},
		{"80003fff", 1<<14 - 1}, {"c000000000004000", 1 << 14},
		{"c00000003fffffff", 1<<30 - 1}, {"c000000040000000", 1 << 30},
		{"ffffffffffffffff", most},
	} {
		p := decoded(t, sealed(t, c.number+"10"+c.number))
		if want := packet(c.want, api.Frame{Kind: api.MaxData, Limit: c.want}); !reflect.DeepEqual(p, want) {
			t.Errorf("P5: a packet with %s = %+v, want %+v", c.number, p, want)
		}
	}
	long := decoded(t, sealed(t, "4001"+"08"+"80000007"+"4002"+"c000000000000003"+"616263"))
	if want := packet(1, api.Frame{Kind: api.Data, Stream: 7, Offset: 2, Data: "abc"}); !reflect.DeepEqual(long, want) {
		t.Errorf("P5: a Data frame of long numbers = %+v, want %+v", long, want)
	}
	long = decoded(t, sealed(t, "00"+"02"+"4009"+"4001"+"4001"+"80000002"+"4001"))
	if want := packet(0, ack(api.Range{Lo: 8, Hi: 9}, api.Range{Lo: 3, Hi: 4})); !reflect.DeepEqual(long, want) {
		t.Errorf("P5: an Ack frame of long numbers = %+v, want %+v", long, want)
	}
}

func TestP5DecodeReadsWhatEncodeWrites(t *testing.T) {
	p, _ := every()
	if q := decoded(t, encoded(t, p)); !reflect.DeepEqual(p, q) {
		t.Errorf("P5: %+v comes back as %+v", p, q)
	}
}

// wrongSum tells whether Decode answers ErrSum as it is, and nothing else.
func wrongSum(b []byte) bool {
	p, err := mediawire.Decode(b)
	return err == api.ErrSum && reflect.DeepEqual(p, api.Packet{})
}

func TestP5Sum(t *testing.T) {
	for length := range 4 {
		if b := make([]byte, length); !wrongSum(b) {
			t.Errorf("P5: %d bytes are not ErrSum", length)
		}
	}
	if !wrongSum(nil) {
		t.Errorf("P5: nil is not ErrSum")
	}
	p, _ := every()
	b := encoded(t, p)
	for bit := range 8 * len(b) {
		b[bit/8] ^= 1 << (bit % 8)
		if !wrongSum(b) {
			t.Errorf("P5: with bit %d turned it is not ErrSum", bit)
		}
		b[bit/8] ^= 1 << (bit % 8)
	}
	slices.Reverse(b[len(b)-4:])
	if !wrongSum(b) {
		t.Errorf("P5: a sum with its lowest byte first is not ErrSum")
	}
	// A frame that is none behind a sum that is wrong: ErrSum is named first.
	b = sealed(t, "00ff")
	b[5] ^= 1
	if !wrongSum(b) {
		t.Errorf("P5: ErrFrame goes ahead of ErrSum")
	}
}

// fault: where Decode finds ErrFrame in a body; -1 if it does not, or answers more beside it.
func fault(body []byte) int {
	p, err := mediawire.Decode(seal(body))
	var f *api.Fault
	if !errors.As(err, &f) || f.Err != api.ErrFrame || !errors.Is(err, api.ErrFrame) || !reflect.DeepEqual(p, api.Packet{}) {
		return -1
	}
	return f.At
}

func TestP5PlaceOfFault(t *testing.T) {
	for _, c := range []struct {
		body string
		at   int
	}{
		// No number, or nothing behind it.
		{"", 0}, {"40", 0}, {"800000", 0}, {"c0000000000000", 0},
		{"00", 0}, {"4000", 0}, {"80000000", 0}, {"c000000000000000", 0},
		// First bytes that are none.
		{"0000", 1}, {"0003", 1}, {"400000", 2}, {"8000000000", 4}, {"c00000000000000000", 8},
		{"00010100", 3}, {"0001010a01", 3}, {"004001", 1},
		// Acks that are cut off, or fall below 0.
		{"0002", 1}, {"000205", 1}, {"00020500", 1}, {"0002050040", 1}, {"00020501", 1}, {"0002050100", 1}, {"000205010000", 1},
		{"0002050006", 1}, {"000205010004" + "00", 1}, {"00020501000003", -1}, {"00020501000004", 1}, {"0002050100" + "0201", -1}, {"0002050100" + "0202", 1},
		{"00" + "02" + "01" + "01" + "00" + "00" + "00", 1}, {"00" + "02" + "02" + "01" + "00" + "00" + "00", -1},
		{"00" + "02" + "05" + "01" + "00" + "ffffffffffffffff" + "00", 1},
		{"00" + "02" + "05" + "00" + "ffffffffffffffff", 1},
		{"00" + "02" + "ffffffffffffffff" + "ffffffffffffffff" + "00", 1},
		// Data: cut off, a stream that is none, an end that is too great.
		{"0008", 1}, {"000800", 1}, {"00080000", 1}, {"0008000001", 1}, {"000800000261", 1},
		{"0009", 1}, {"0009000001", 1},
		{"0008080000", 1}, {"0009400800", 1}, {"0008" + "c000000100000000" + "0000", 1}, {"0008070000", -1}, {"00084007" + "0000", -1},
		{"0008" + "00" + "ffffffffffffffff" + "01" + "61", 1}, {"0008" + "00" + "ffffffffffffffff" + "00", -1}, {"0008" + "00" + "fffffffffffffffe" + "01" + "61", -1},
		{"0008" + "00" + "00" + "ffffffffffffffff" + "6161", 1},
		// ResetAt: cut off, a stream that is none, Reliable above Offset.
		{"0024", 1}, {"002400", 1}, {"00240005", 1}, {"0024080505", 1}, {"0024000506", 1}, {"0024000505", -1},
		// MaxData, MaxStream, Close: cut off, a stream that is none.
		{"0010", 1}, {"001040", 1}, {"0011", 1}, {"001100", 1}, {"00110880", 1}, {"00110801", 1}, {"00110701", -1}, {"001c", 1}, {"001c80", 1},
		// Datagrams that are cut off.
		{"0030", 1}, {"003001", 1}, {"00300102", 1}, {"0030010201", 1}, {"003001020261", 1}, {"0030010200", -1},
		{"0030" + "00" + "00" + "ffffffffffffffff" + "61", 1},
		// The first frame that is wrong, behind others, and ahead of others.
		{"010108" + "00", 2}, {"01" + "01" + "24000506" + "ff", 2}, {"4001" + "0800000161" + "1c", 7}, {"01" + "24000506" + "01", 1}, {"00010101ff01", 4},
	} {
		body, err := hex.DecodeString(c.body)
		if err != nil {
			t.Fatal(err)
		}
		if at := fault(body); at != c.at {
			t.Errorf("P5: Decode of %s: ErrFrame at %d, want %d", c.body, at, c.at)
		}
		if _, err := mediawire.Decode(seal(body)); c.at == -1 && err != nil {
			t.Errorf("P5: Decode of %s: %v", c.body, err)
		}
	}
}

func TestP5EveryFirstByte(t *testing.T) {
	for first := range 256 {
		body := []byte{0, byte(first), 0, 0, 0, 0, 0, 0}
		switch first {
		case 0x01, 0x02, 0x08, 0x09, 0x10, 0x11, 0x1c, 0x24, 0x30:
			// The zeros behind the frame are first bytes that are none.
			if at := fault(body); at < 2 {
				t.Errorf("P5: the first byte %02x: ErrFrame at %d", first, at)
			}
		default:
			if at := fault(body); at != 1 {
				t.Errorf("P5: the first byte %02x: ErrFrame at %d, want 1", first, at)
			}
		}
	}
}

// A packet cut off anywhere: whole if it ends behind a frame, else ErrFrame where the cut frame begins.
func TestP5EveryCut(t *testing.T) {
	p, parts := every()
	body, err := hex.DecodeString(strings.Join(parts, ""))
	if err != nil {
		t.Fatal(err)
	}
	ends := map[int]int{} // where a frame ends: how many there are up to there
	begins := []int{0}
	at := len(parts[0]) / 2
	for i, part := range parts[1:] {
		begins = append(begins, at)
		at += len(part) / 2
		ends[at] = i + 1
	}
	for cut := range len(body) + 1 {
		if n := ends[cut]; n > 0 {
			if q := decoded(t, seal(body[:cut])); !reflect.DeepEqual(q, packet(p.Number, p.Frames[:n]...)) {
				t.Errorf("P5: cut at %d: %+v", cut, q)
			}
			continue
		}
		want := 0
		for _, begin := range begins {
			if begin < cut {
				want = begin
			}
		}
		if at := fault(body[:cut]); at != want {
			t.Errorf("P5: cut at %d: ErrFrame at %d, want %d", cut, at, want)
		}
	}
}
