package digest

import (
	"bytes"
	"testing"

	"skein/api"
	"skein/set"
)

// TestTexts: none, one and three operations; the digests in these texts were worked out by hand.
func TestTexts(t *testing.T) {
	var none set.Set
	one := none.With(api.Op{Kind: api.Insert, Client: 1, Clock: 1, Stamp: 1, Char: 'a'})
	three := one.With(api.Op{Kind: api.Insert, Client: 1, Clock: 2, Stamp: 2, Ref: 1048577, Char: 'b'}).
		With(api.Op{Kind: api.Insert, Client: 1, Clock: 3, Stamp: 3, Ref: 1048577, Char: 'd'})
	for _, c := range []struct {
		s      set.Set
		text   string
		digest api.Digest
	}{
		{none, "\x00", api.Digest{0x6e, 0x34, 0x0b}},
		{one, "\x01\x6e\x34\x0b\x28\x3a\x70\x6e\x34\x0b", api.Digest{0xfc, 0xac, 0x39}},
		{three, "\x01\xfc\xac\x39\x97\x06\xd2\x9d\xfb\xdc", api.Digest{0x90, 0xe7, 0xb8}},
	} {
		if got := text(c.s); !bytes.Equal(got, []byte(c.text)) {
			t.Errorf("the text of %d operations: %x, want %x", c.s.Len(), got, c.text)
		}
		if got := Of(c.s); got != c.digest {
			t.Errorf("the digest of %d operations: %x, want %x", c.s.Len(), got, c.digest)
		}
	}
}

// TestMiddleText: a byte 2, and the operation's bytes.
func TestMiddleText(t *testing.T) {
	for _, c := range []struct {
		o      api.Op
		text   string
		digest api.Digest
	}{
		{api.Op{Kind: api.Insert, Client: 1, Clock: 1, Stamp: 1, Char: 'a'}, "\x02\x01\x01\x01\x01\x00\x61", api.Digest{0x28, 0x3a, 0x70}},
		{api.Op{Kind: api.Delete, Client: 1, Clock: 4, Stamp: 4, Ref: 2097153}, "\x02\x02\x01\x04\x04\x81\x80\x80\x01", api.Digest{0xa9, 0xcf, 0x4a}},
	} {
		got := middleText(c.o)
		if !bytes.Equal(got, []byte(c.text)) || short(got) != c.digest {
			t.Errorf("the text of %+v: %x, %x; want %x, %x", c.o, got, short(got), c.text, c.digest)
		}
	}
}

// TestClash: unlike sets, the same set, one whose digest is that of none, and two of one text. (426's and 10's operations were found by trying.)
func TestClash(t *testing.T) {
	var none set.Set
	other := none.With(api.Op{Kind: api.Insert, Client: 1, Clock: 1, Stamp: 1, Char: 'a'})
	x := api.Op{Kind: api.Insert, Client: 426, Clock: 1, Stamp: 1, Char: 128460}
	y := api.Op{Kind: api.Insert, Client: 10, Clock: 1, Stamp: 1, Char: 62717}
	hollow := "\x01\x6e\x34\x0b\x3f\x14\x3b\x6e\x34\x0b"
	for _, c := range []struct {
		x, y         set.Set
		textX, textY string
	}{
		{none, none, "", ""},
		{other, other, "", ""},
		{other, none, "", ""},
		{none.With(x), other, "", ""},
		{none.With(x), none, hollow, "\x00"},
		{none, none.With(y), "\x00", hollow},
		{none.With(x), none.With(y), "\x02\x01\xaa\x03\x01\x01\x00\xcc\xeb\x07", "\x02\x01\x0a\x01\x01\x00\xfd\xe9\x03"},
	} {
		if p, q := Clash(c.x, c.y); string(p) != c.textX || string(q) != c.textY {
			t.Errorf("Clash = %x, %x, want %x, %x", p, q, c.textX, c.textY)
		}
	}
}
