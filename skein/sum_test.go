package skein_test

import (
	"crypto/sha256"
	"encoding/hex"
	"strings"
	"sync"
	"testing"

	"skein/skein"
)

// TestSumVectors: P3: texts with their sums, as they are published with FIPS 180-4.
func TestSumVectors(t *testing.T) {
	for _, c := range []struct{ text, want string }{
		{"", "e3b0c44298fc1c149afbf4c8996fb92427ae41e4649b934ca495991b7852b855"},
		{"abc", "ba7816bf8f01cfea414140de5dae2223b00361a396177a9cb410ff61f20015ad"},
		{"abcdbcdecdefdefgefghfghighijhijkijkljklmklmnlmnomnopnopq", "248d6a61d20638b8e5c026930c3e6039a33ce45964ff2167f6ecedd419db06c1"},
		{"abcdefghbcdefghicdefghijdefghijkefghijklfghijklmghijklmnhijklmnoijklmnopjklmnopqklmnopqrlmnopqrsmnopqrstnopqrstu", "cf5b16a778af8380036ce59e7b0492370b249b11e8f07a51afac45037afee9d1"},
		{strings.Repeat("a", 1000000), "cdc76e5c9914fb9281a1c7e284d73e67f1809a48a497200e046d39ccc7112cd0"},
	} {
		sum := skein.Sum([]byte(c.text))
		if got := hex.EncodeToString(sum[:]); got != c.want {
			t.Errorf("Sum of %d bytes = %s, want %s", len(c.text), got, c.want)
		}
	}
	if skein.Sum(nil) != skein.Sum([]byte{}) {
		t.Error("Sum(nil) is not the sum of no bytes")
	}
}

// TestSumLengths: P3: every length about the edges of the blocks; P2: nothing is written, the spare room neither.
func TestSumLengths(t *testing.T) {
	room := make([]byte, 700)
	for i := range room {
		room[i] = byte(i*7 + i>>8)
	}
	was := string(room)
	for n := range 521 {
		b := room[3 : 3+n]
		if got := skein.Sum(b); got != sha256.Sum256([]byte(was[3:3+n])) {
			t.Errorf("Sum of %d bytes = %x", n, got)
		}
		if string(room) != was {
			t.Fatalf("Sum of %d bytes wrote into what it was handed", n)
		}
	}
}

// TestSumEachBit: P3: every bit of a block counts.
func TestSumEachBit(t *testing.T) {
	b := make([]byte, 130)
	for i := range 8 * len(b) {
		b[i/8] ^= 1 << (i % 8)
		if skein.Sum(b) != sha256.Sum256(b) {
			t.Errorf("Sum with the bit %d alone is wrong", i)
		}
		b[i/8] ^= 1 << (i % 8)
	}
}

// TestSumTogether: P2: several goroutines at a time get what each would get alone.
func TestSumTogether(t *testing.T) {
	b := []byte(strings.Repeat("skein", 100))
	want := sha256.Sum256(b)
	var wait sync.WaitGroup
	for range 8 {
		wait.Go(func() {
			for range 50 {
				if skein.Sum(b) != want {
					t.Error("Sum differs among goroutines")
				}
			}
		})
	}
	wait.Wait()
}

// TestKey: P3: client times 2^20 and clock, whatever they are.
func TestKey(t *testing.T) {
	for _, c := range []struct {
		client, clock uint32
		want          uint64
	}{
		{0, 0, 0},
		{1, 1, 1048577},
		{0, 1, 1},
		{1, 0, 1048576},
		{1, 1 << 20, 2 << 20},
		{3, 1<<20 + 5, 4<<20 + 5},
		{1<<20 - 1, 1<<20 - 1, 1<<40 - 1},
		{1 << 20, 0, 1 << 40},
		{1<<32 - 1, 0, 4503599626321920},
		{0, 1<<32 - 1, 4294967295},
		{1<<32 - 1, 1<<32 - 1, 4503603921289215},
	} {
		if got := skein.Key(c.client, c.clock); got != c.want {
			t.Errorf("Key(%d, %d) = %d, want %d", c.client, c.clock, got, c.want)
		}
	}
}
