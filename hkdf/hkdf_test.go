package hkdf_test

import (
	"bytes"
	stdhkdf "crypto/hkdf"
	"crypto/hmac"
	"crypto/sha256"
	"encoding/hex"
	"math"
	"testing"

	"cresset/hkdf"
	"cresset/sha"
)

const most = 8160

// counted is n bytes of which neighbours differ.
func counted(n int) []byte {
	b := make([]byte, n)
	for i := range b {
		b[i] = byte(i*5 + i>>8 + 1)
	}
	return b
}

func unhex(t *testing.T, s string) []byte {
	t.Helper()
	b, err := hex.DecodeString(s)
	if err != nil {
		t.Fatal(err)
	}
	return b
}

// wantMac is the keyed digest as the library makes it.
func wantMac(key []byte, pieces ...[]byte) [sha.Size]byte {
	h := hmac.New(sha256.New, key)
	for _, p := range pieces {
		h.Write(p)
	}
	return [sha.Size]byte(h.Sum(nil))
}

// P2.1: the example, and those of RFC 4231.
func TestMacKnown(t *testing.T) {
	for _, x := range []struct {
		key, text []byte
		want      string
	}{
		{bytes.Repeat([]byte{0x0b}, 20), []byte("Hi There"), "b0344c61d8db38535ca8afceaf0bf12b881dc200c9833da726e9376c2e32cff7"},
		{[]byte("Jefe"), []byte("what do ya want for nothing?"), "5bdcc146bf60754e6a042426089575c75a003f089d2739839dec58b964ec3843"},
		{bytes.Repeat([]byte{0xaa}, 20), bytes.Repeat([]byte{0xdd}, 50), "773ea91e36800e46854db8ebd09181a72959098b3ef8c122d9635514ced565fe"},
		{unhex(t, "0102030405060708090a0b0c0d0e0f10111213141516171819"), bytes.Repeat([]byte{0xcd}, 50), "82558a389a443c0ea4cc819899f2083a85f0faa3e578f8077a2e3ff46729665b"},
		{bytes.Repeat([]byte{0xaa}, 131), []byte("Test Using Larger Than Block-Size Key - Hash Key First"), "60e431591ee0b67f0d8a26aacbf5b77f8e0bc6213728c5140546040f0ee37f54"},
		{bytes.Repeat([]byte{0xaa}, 131), []byte("This is a test using a larger than block-size key and a larger than block-size data. The key needs to be hashed before being used by the HMAC algorithm."), "9b09ffa71b942fcb27635fbcd5b0e944bfdc63644f0713938a7f51535c3a35e2"},
	} {
		got := hkdf.Mac(x.key, x.text)
		if hex.EncodeToString(got[:]) != x.want {
			t.Errorf("Mac of a key of %d bytes and %q: %x, not %s", len(x.key), x.text, got, x.want)
		}
	}
}

// P2.1: keys of every length about a block's: only one of more than 64 bytes is digested.
func TestMacKeyLengths(t *testing.T) {
	for n := range 200 {
		key := counted(n)
		if got, want := hkdf.Mac(key, []byte("text")), wantMac(key, []byte("text")); got != want {
			t.Errorf("Mac of a key of %d bytes: %x, not %x", n, got, want)
		}
	}
	full, long := counted(64), counted(65)
	digest := sha.Of(full)
	if hkdf.Mac(full, []byte("x")) == hkdf.Mac(digest[:], []byte("x")) {
		t.Error("a key of 64 bytes is digested")
	}
	digest = sha.Of(long)
	if hkdf.Mac(long, []byte("x")) != hkdf.Mac(digest[:], []byte("x")) {
		t.Error("a key of 65 bytes is not digested")
	}
}

// P2.1: bytes 0 go behind the key.
func TestMacKeyPadding(t *testing.T) {
	if hkdf.Mac([]byte("key"), []byte("x")) != hkdf.Mac([]byte("key\x00\x00"), []byte("x")) {
		t.Error("bytes 0 behind a key make a difference")
	}
	if hkdf.Mac([]byte("key"), []byte("x")) == hkdf.Mac([]byte("\x00key"), []byte("x")) {
		t.Error("bytes 0 ahead of a key make no difference")
	}
}

// P2.1: pieces lie one behind the other, wherever they are cut.
func TestMacPieces(t *testing.T) {
	key, all := []byte("key"), counted(150)
	want := wantMac(key, all)
	for i := range len(all) + 1 {
		if got := hkdf.Mac(key, all[:i], nil, all[i:], []byte{}); got != want {
			t.Errorf("Mac of pieces cut at %d: %x, not %x", i, got, want)
		}
	}
}

// P2.1: no key, no pieces, nil and empty.
func TestMacNothing(t *testing.T) {
	want := wantMac(nil)
	if hkdf.Mac(nil) != want || hkdf.Mac([]byte{}, nil) != want || hkdf.Mac(nil, []byte{}, nil) != want || hkdf.Mac(nil, [][]byte{}...) != want {
		t.Error("Mac of nothing")
	}
}

// P2.1 to P2.3: what is handed in is not changed, the room behind its end included.
func TestArgumentsStay(t *testing.T) {
	for _, n := range []int{10, 64, 100} {
		all := counted(300)
		kept := bytes.Clone(all)
		key, text := all[:n], all[n:2*n]
		pieces := [][]byte{text, text, all[250:]}
		hkdf.Mac(key, pieces[:1]...)
		hkdf.Extract(key, text)
		hkdf.Expand(key, text, 100)
		if !bytes.Equal(all, kept) {
			t.Errorf("a key of %d bytes: the bytes that were handed in have changed", n)
		}
		if &pieces[1][0] != &text[0] || &pieces[2][0] != &all[250] || len(pieces[1]) != n {
			t.Errorf("a key of %d bytes: the list that was handed in has changed", n)
		}
	}
}

// P2.2, P2.3: the examples of RFC 5869.
func TestKnownKeys(t *testing.T) {
	var salt, drawn, info []byte
	for i := range 80 {
		drawn, salt, info = append(drawn, byte(i)), append(salt, byte(0x60+i)), append(info, byte(0xb0+i))
	}
	for _, x := range []struct {
		salt, drawn, info []byte
		n                 int
		key, out          string
	}{
		{unhex(t, "000102030405060708090a0b0c"), bytes.Repeat([]byte{0x0b}, 22), unhex(t, "f0f1f2f3f4f5f6f7f8f9"), 42,
			"077709362c2e32df0ddc3f0dc47bba6390b6c73bb50f9c3122ec844ad7c2b3e5",
			"3cb25f25faacd57a90434f64d0362f2a2d2d0a90cf1a5a4c5db02d56ecc4c5bf34007208d5b887185865"},
		{salt, drawn, info, 82,
			"06a6b88c5853361a06104c9ceb35b45cef760014904671014a193f40c15fc244",
			"b11e398dc80327a1c8e7f78c596a49344f012eda2d4efad8a050cc4c19afa97c59045a99cac7827271cb41c65e590e09da3275600c2f09b8367793a9aca3db71cc30c58179ec3e87c14c01d5c1f3434f1d87"},
		{nil, bytes.Repeat([]byte{0x0b}, 22), nil, 42,
			"19ef24a32c717b167f33a91d6f648bdf96596776afdb6377ac434c1c293ccb04",
			"8da4e775a563c18f715f802a063c5a31b8a11f5c5ee1879ec3454e5f3c738d2d9d201395faa4b61a96c8"},
	} {
		key := hkdf.Extract(x.salt, x.drawn)
		if hex.EncodeToString(key[:]) != x.key {
			t.Errorf("Extract: %x, not %s", key, x.key)
		}
		if out := hkdf.Expand(key[:], x.info, x.n); hex.EncodeToString(out) != x.out {
			t.Errorf("Expand: %x, not %s", out, x.out)
		}
	}
}

// P2.2: Extract is Mac of the salt, whatever the lengths.
func TestExtract(t *testing.T) {
	for _, n := range []int{0, 1, 32, 63, 64, 65, 100} {
		for _, m := range []int{0, 1, 32, 64, 200} {
			salt, drawn := counted(n), counted(m)
			if got := hkdf.Extract(salt, drawn); got != wantMac(salt, drawn) || got != hkdf.Mac(salt, drawn) {
				t.Errorf("Extract of %d and %d bytes: %x", n, m, got)
			}
		}
	}
	if hkdf.Extract(nil, nil) != hkdf.Extract([]byte{}, []byte{}) {
		t.Error("nil and empty make a difference to Extract")
	}
}

// P2.3: as many bytes as are asked for, about the edges of a digest and up to the most.
func TestExpandLengths(t *testing.T) {
	key, info := counted(32), counted(10)
	whole := hkdf.Expand(key, info, most)
	for _, n := range []int{0, 1, 31, 32, 33, 63, 64, 65, 96, 255, 256, 257, 8128, 8129, 8159, most} {
		want, err := stdhkdf.Expand(sha256.New, key, string(info), n)
		if err != nil {
			t.Fatal(err)
		}
		got := hkdf.Expand(key, info, n)
		if !bytes.Equal(got, want) || !bytes.Equal(got, whole[:n]) {
			t.Errorf("Expand to %d bytes: %x, not %x", n, got, want)
		}
		if cap(got) != len(got) {
			t.Errorf("Expand to %d bytes leaves room for %d behind its end", n, cap(got)-len(got))
		}
	}
}

// P2.3: nothing beyond the bounds.
func TestExpandOutOfBounds(t *testing.T) {
	for _, n := range []int{-1, -32, most + 1, most + 32, 1 << 20, math.MinInt, math.MaxInt} {
		if got := hkdf.Expand(counted(32), nil, n); len(got) != 0 {
			t.Errorf("Expand to %d bytes gives %d", n, len(got))
		}
	}
}

// P2.3: keys and infos of any length, nil and empty.
func TestExpandInputs(t *testing.T) {
	for _, n := range []int{0, 1, 32, 63, 64, 65, 100} {
		for _, m := range []int{0, 1, 64, 300} {
			key, info := counted(n), counted(m)
			want, err := stdhkdf.Expand(sha256.New, key, string(info), 100)
			if err != nil {
				t.Fatal(err)
			}
			if got := hkdf.Expand(key, info, 100); !bytes.Equal(got, want) {
				t.Errorf("Expand of %d and %d bytes: %x, not %x", n, m, got, want)
			}
		}
	}
	if !bytes.Equal(hkdf.Expand(nil, nil, 40), hkdf.Expand([]byte{}, []byte{}, 40)) {
		t.Error("nil and empty make a difference to Expand")
	}
}

// P2.3: two answers share nothing.
func TestExpandNewMemory(t *testing.T) {
	key := counted(32)
	a := hkdf.Expand(key, nil, 40)
	kept := bytes.Clone(a)
	b := hkdf.Expand(key, nil, 40)
	clear(b)
	if !bytes.Equal(a, kept) || !bytes.Equal(key, counted(32)) {
		t.Error("an answer shares memory")
	}
}
