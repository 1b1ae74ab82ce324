package unpack_test

import (
	"bytes"
	"slices"
	"testing"

	"shunter/api"
	"shunter/ground"
	"shunter/unpack"
)

// Promise 12.3: bytes that are cut, anywhere, aren't unpacked.
func TestUnpackOfCutBytes(t *testing.T) {
	for _, m := range append(ground.Images(), byHand()) {
		b := packed(t, m)
		for n := range b {
			m, err := asModel(t, b[:n])
			if e, _, inBytes := unpack.Why(err); e != api.ErrEnd || !inBytes {
				t.Fatalf("Unpack of %d bytes of %d = %v, %v", n, len(b), m, err)
			}
		}
	}
	b := packed(t, ground.Sized(65535))
	for n := 0; n < len(b); n += 997 {
		_, err := asModel(t, b[:n])
		if e, _, inBytes := unpack.Why(err); e != api.ErrEnd || !inBytes {
			t.Fatalf("Unpack of %d bytes of %d: %v", n, len(b), err)
		}
	}
}

// Promises 12.1 and 12.3: each byte of an image is changed; what is unpacked still was packed as just these bytes.
func TestUnpackOfWhatIsNear(t *testing.T) {
	for _, m := range []api.Image{ground.LeastImage(), byHand(), ground.Image()} {
		t.Run(m.Name, func(t *testing.T) {
			t.Parallel()
			near(t, packed(t, m))
		})
	}
}

func near(t *testing.T, b []byte) {
	t.Helper()
	read, faults, flaws := 0, 0, 0
	for at, kept := range b {
		for _, to := range []byte{0, 1, 2, 3, 4, 5, 8, 16, 31, 34, 35, 64, 65, 128, 129, 253, 254, 255, kept + 1, kept - 1, kept ^ 32, kept ^ 128} {
			b[at] = to
			_, err := asModel(t, b)
			switch _, _, inBytes := unpack.Why(err); {
			case err == nil:
				read++
			case inBytes:
				faults++
			default:
				flaws++
			}
		}
		b[at] = kept
	}
	if min(read, faults, flaws) < len(b)/3 {
		t.Errorf("of what is near %d bytes %d are read, %d are no image's, and %d have a flaw; want some more of each", len(b), read, faults, flaws)
	}
}

// A byte more, or one less, at each place, be the section's length what it was, or what it is.
func TestUnpackOfBytesMoreAndLess(t *testing.T) {
	for _, m := range []api.Image{ground.LeastImage(), byHand(), ground.Image()} {
		b := packed(t, m)
		for at := range b {
			asModel(t, slices.Delete(bytes.Clone(b), at, at+1))
			for _, x := range []byte{0, 1, 34, 255, b[at]} {
				asModel(t, slices.Insert(bytes.Clone(b), at, x))
			}
		}
		for part := range partsOf {
			l := sectionsOf(t, m)
			section := l[part]
			for at := range len(section) + 1 {
				for _, x := range []byte{0, 1, 2, 3, 255} {
					l[part] = slices.Insert(bytes.Clone(section), at, x)
					b, _ := laid(l)
					asModel(t, b)
				}
				if at < len(section) {
					l[part] = slices.Delete(bytes.Clone(section), at, at+1)
					b, _ := laid(l)
					asModel(t, b)
				}
			}
		}
	}
}

// Several bytes are changed, some of them to ones that stand elsewhere.
func TestUnpackOfWhatIsMixed(t *testing.T) {
	l := [][]byte{packed(t, ground.LeastImage()), packed(t, byHand()), packed(t, ground.Image())}
	x := uint64(12)
	for range 20000 {
		b := bytes.Clone(l[ground.Number(&x)%3])
		for range 1 + ground.Number(&x)%3 {
			to := byte(ground.Number(&x))
			if ground.Number(&x)%2 == 0 {
				to = b[ground.Number(&x)%uint64(len(b))]
			}
			b[ground.Number(&x)%uint64(len(b))] = to
		}
		asModel(t, b)
	}
	for n := range 300 {
		asModel(t, ground.Bytes(n))
		asModel(t, append([]byte(markOf), ground.Bytes(n)...))
	}
}

// Sections of several images are put together: each is read as it stands, whatever the others are.
func TestUnpackOfMixedSections(t *testing.T) {
	images := append(ground.Images(), byHand())
	for _, m := range images {
		l := sectionsOf(t, m)
		for _, other := range images {
			for part, s := range sectionsOf(t, other) {
				mixed := slices.Clone(l)
				mixed[part] = s
				b, _ := laid(mixed)
				asModel(t, b)
			}
		}
	}
}
