package bls

import (
	"bytes"
	"crypto/sha256"
	"testing"

	"cresset/fr"
)

// P13.1: of a key that is 0 it begins once more, each time with the digest of the salt ahead. Of bytes that were drawn none is known that makes 0: so the keys are made here.
func TestSalted(t *testing.T) {
	for noughts := range 4 {
		want, tries := sha256.Sum256([]byte("BLS-SIG-KEYGEN-SALT-")), 0
		got := salted(func(salt []byte) fr.El {
			if !bytes.Equal(salt, want[:]) {
				t.Errorf("try %d of %d: the salt is %x, not %x", tries+1, noughts+1, salt, want)
			}
			want = sha256.Sum256(salt)
			tries++
			if tries <= noughts {
				return fr.El{}
			}
			return fr.Of(uint64(tries))
		})
		if tries != noughts+1 || got != fr.Of(uint64(noughts+1)) {
			t.Errorf("behind %d keys that are 0: %x, at try %d", noughts, got.Bytes(), tries)
		}
	}
}
