package bls_test

import (
	"bytes"
	"crypto/hkdf"
	"crypto/sha256"
	"encoding/binary"
	"encoding/hex"
	"fmt"
	"math/big"
	"math/rand/v2"
	"strings"
	"testing"

	"cresset/api"
	"cresset/bls"
	"cresset/codec"
	"cresset/fp"
	"cresset/fp2"
	"cresset/fr"
	"cresset/g1"
	"cresset/g2"
	"cresset/h2c"
	"cresset/pairing"
)

const (
	least = 32
	tag   = "BLS_SIG_BLS12381G2_XMD:SHA-256_SSWU_RO_NUL_"
)

var order, _ = new(big.Int).SetString("73eda753299d7d483339d80809a1d80553bda402fffe5bfeffffffff00000001", 16)

// counted is n bytes of which neighbours differ.
func counted(n int) []byte {
	b := make([]byte, n)
	for i := range b {
		b[i] = byte(i*5 + i>>8 + 1)
	}
	return b
}

func unhex(t testing.TB, s string) []byte {
	t.Helper()
	b, err := hex.DecodeString(s)
	if err != nil {
		t.Fatal(err)
	}
	return b
}

func source(seed uint64) *rand.Rand { return rand.New(rand.NewPCG(13, seed)) }

// drawn is some scalar, the same one each time.
func drawn(from *rand.Rand) fr.El {
	b := make([]byte, fr.Size+8)
	for i := range b {
		b[i] = byte(from.Uint32())
	}
	return fr.Wide(b)
}

// keys are scalars at the edges, and some others; none of them is 0.
func keys(seed uint64) []fr.El {
	from, one := source(seed), fr.Of(1)
	return []fr.El{one, fr.Of(2), one.Neg(), one.Neg().Add(one.Neg()), fr.Of(1 << 63), drawn(from), drawn(from)}
}

// texts differ by little, and by much.
func texts() [][]byte {
	return [][]byte{nil, {0}, {1}, {0, 0}, []byte("round 1"), []byte("round 2"), counted(64), counted(api.MaxText), counted(api.MaxText + 1)}
}

// wantKey is what Key must make, with the library's digests and math/big.
func wantKey(t testing.TB, drawn, info []byte) fr.El {
	t.Helper()
	salt := []byte("BLS-SIG-KEYGEN-SALT-")
	for {
		digest := sha256.Sum256(salt)
		salt = digest[:]
		extracted, err := hkdf.Extract(sha256.New, append(bytes.Clone(drawn), 0), salt)
		if err != nil {
			t.Fatal(err)
		}
		made, err := hkdf.Expand(sha256.New, extracted, string(info)+"\x00\x30", 48)
		if err != nil {
			t.Fatal(err)
		}
		n := new(big.Int).SetBytes(made)
		if n.Mod(n, order); n.Sign() != 0 {
			k, e := fr.Read(n.FillBytes(make([]byte, fr.Size)))
			if e != api.OK {
				t.Fatal(e)
			}
			return k
		}
	}
}

// P13.1: the first keys of the examples of EIP-2333, which are made just so.
func TestKeyKnown(t *testing.T) {
	for _, x := range []struct{ drawn, want string }{
		{"c55257c360c07c72029aebc1b53c05ed0362ada38ead3e3e9efa3708e53495531f09a6987599d18264c1e1c92f2cf141630c7a3c4ab7c81b2f001698e7463b04", "6083874454709270928345386274498605044986640685124978867557563392430687146096"},
		{"3141592653589793238462643383279502884197169399375105820974944592", "29757020647961307431480504535336562678282505419141012933316116377660817309383"},
		{"0099ff991111002299dd7744ee3355bbdd8844115566cc55663355668888cc00", "27580842291869792442942448775674722299803720648445448686099262467207037398656"},
		{"d4e56740f876aef8c010b86a40d5f56745a118d0906a34e69aec8c0db1cb8fa3", "19022158461524446591288038168518313374041767046816487870552872741050760015818"},
	} {
		k, e := bls.Key(unhex(t, x.drawn), nil)
		b := k.Bytes()
		if got := new(big.Int).SetBytes(b[:]).String(); e != api.OK || got != x.want {
			t.Errorf("Key of %s: %s, %d", x.drawn, got, e)
		}
	}
}

// P13.1: keys of many lengths, as the library makes them.
func TestKey(t *testing.T) {
	seen := map[fr.El]string{}
	for _, n := range []int{least, least + 1, 47, 48, 63, 64, 65, 100, 1000, api.MaxText + 1} {
		for _, m := range []int{0, 1, 2, 31, 32, 64, 700} {
			what := fmt.Sprintf("%d bytes, info %d", n, m)
			got, e := bls.Key(counted(n), counted(m))
			if want := wantKey(t, counted(n), counted(m)); e != api.OK || got != want {
				t.Errorf("Key of %s: %x, %d; not %x", what, got.Bytes(), e, want.Bytes())
			}
			if other, is := seen[got]; is {
				t.Errorf("Key of %s is that of %s", what, other)
			}
			seen[got] = what
		}
	}
}

// P13.1: all bytes drawn the same; bytes that end as what is laid behind them.
func TestKeyEdges(t *testing.T) {
	for _, v := range []byte{0, 1, 255} {
		for _, n := range []int{least, least + 1} {
			for _, info := range [][]byte{nil, {0}, {48}, {0, 48}, {0, 48, 0, 48}} {
				b := bytes.Repeat([]byte{v}, n)
				if got, e := bls.Key(b, info); e != api.OK || got != wantKey(t, b, info) {
					t.Errorf("Key of %d bytes %d, info %v: %x, %d", n, v, info, got.Bytes(), e)
				}
			}
		}
	}
}

// P13.1: fewer than 32 bytes, whatever the info.
func TestKeyShort(t *testing.T) {
	for n := range least {
		for _, info := range [][]byte{nil, {1}, counted(100)} {
			if k, e := bls.Key(counted(n), info); e != api.ErrLen || k != (fr.El{}) {
				t.Errorf("Key of %d bytes: %x, %d", n, k.Bytes(), e)
			}
		}
	}
	if k, e := bls.Key(nil, nil); e != api.ErrLen || k != (fr.El{}) {
		t.Errorf("Key of nil: %x, %d", k.Bytes(), e)
	}
}

// P13.1: nil and empty are one; what is handed in stays, the room behind it too, and is not looked at.
func TestKeyArguments(t *testing.T) {
	kept := counted(200)
	b, info := bytes.Clone(kept), bytes.Clone(kept)
	for _, n := range []int{0, 31, 32, 100} {
		for _, m := range []int{0, 1, 100} {
			got, e := bls.Key(b[:n], info[:m])
			if other, f := bls.Key(counted(n), counted(m)); got != other || e != f {
				t.Errorf("Key of %d bytes, info %d: what lies behind them counts", n, m)
			}
			if !bytes.Equal(b, kept) || !bytes.Equal(info, kept) {
				t.Fatalf("Key of %d bytes, info %d has changed what it was handed", n, m)
			}
		}
	}
	with, _ := bls.Key(counted(least), []byte{})
	if without, _ := bls.Key(counted(least), nil); with != without {
		t.Error("no info is not an empty one")
	}
}

// P13.2: the generator times the key; of 0 it is P{}.
func TestPublic(t *testing.T) {
	if bls.Public(fr.El{}) != (g1.P{}) || bls.Public(fr.Of(1)) != g1.Gen() || bls.Public(fr.Of(1).Neg()) != g1.Gen().Neg() || bls.Public(fr.Of(3)) != g1.Sum(g1.Gen(), g1.Gen(), g1.Gen()) {
		t.Error("Public of 0, 1, -1 or 3")
	}
	for _, k := range keys(1) {
		p := bls.Public(k)
		if p != g1.Gen().Mul(k) || p == (g1.P{}) || !p.In() {
			t.Errorf("Public of %x", k.Bytes())
		}
		if p.Add(g1.Gen()) != bls.Public(k.Add(fr.Of(1))) {
			t.Errorf("Public of %x and 1", k.Bytes())
		}
	}
}

// P13.2: the text's point is Hash under the tag, which counts.
func TestPoint(t *testing.T) {
	seen := map[g2.P]bool{}
	for _, msg := range texts() {
		p := bls.Point(msg)
		if p != h2c.Hash(msg, []byte(tag)) || !p.In() || p == (g2.P{}) || seen[p] {
			t.Errorf("Point of %d bytes", len(msg))
		}
		seen[p] = true
		if p == h2c.Hash(msg, nil) || p == h2c.Hash(msg, []byte(strings.ToLower(tag))) {
			t.Errorf("Point of %d bytes: the tag doesn't count", len(msg))
		}
	}
	if bls.Point(nil) != bls.Point([]byte{}) {
		t.Error("Point of nil is not that of none")
	}
}

// P13.2: the text's point times the key; of 0 it is P{}.
func TestSign(t *testing.T) {
	for _, msg := range texts() {
		p := bls.Point(msg)
		if bls.Sign(fr.El{}, msg) != (g2.P{}) || bls.Sign(fr.Of(1), msg) != p || bls.Sign(fr.Of(1).Neg(), msg) != p.Neg() {
			t.Errorf("Sign of 0, 1 or -1, and %d bytes", len(msg))
		}
		for _, k := range keys(2) {
			if bls.Sign(k, msg) != p.Mul(k) {
				t.Errorf("Sign of %x and %d bytes", k.Bytes(), len(msg))
			}
		}
	}
}

// P13.1, P13.2: keys and signatures that another program has made, of counted bytes: so many drawn, so many as info, which are also the text.
func TestSignKnown(t *testing.T) {
	for _, x := range []struct {
		drawn, info      int
		key, public, sig string
	}{
		{
			32, 0, "4709c85f3ff080a60f3adae1826c716f70a58ccdac3f6d2f15063d6cc5019453",
			"a008b78d337b388ea6b1344f12c94886d70cfa7da7b1c5a5594620ba551d6d1279634a7f9852e90097cf42f1c2f8849f",
			"97defc81f27a099ec11a822e5ab0aa3248b308402b82c3930fbcdf4846c453edd79d3275ea9b53cd8bce12e7d9c1e6970907fa92092db029cd3c017de0d0e448c87a4bed16b68d0ef3d0873f537661d150a52939c1e9849b803d3cdbae002112",
		},
		{
			48, 5, "038c25a5d76d3c93bf8a764e3f368ebf299d97466b490a368e0f01393b29f9b3",
			"a784687008d10a7578757edefe2ac3ccae82fde6619be6fa97f13263dd8844f180cb3567038be8a18f153c339556a5cc",
			"96722efaf0487f7aa92418b7123e3333759d08baabba422fb2d9c1c496b3008af07abf746e2f71ab149b14a927b6af4208638aa7ddb089fa02fcb5b7c9a48004c707b3cf2c989903394fae7a0da0ecfdf15fc2ec2092eb2b5aab696bcda1b5db",
		},
		{
			300, 700, "495877225f07ccf3d882a5eb8825610db60f40f7ca3179e08d7d105310d11ca1",
			"97e7238f3044fe2dfd5bac9a4058ae6e95a01c0463fa898a43cd30bcab83b4a990ca187aff42dc3db711a13ecc290445",
			"9283af914b79a3f73f98ef8f02ee785ead0fa886cb8e46bd683fd29ea64259cedcddb526783617ee56dbdc8b9169f4b90c9d863c0e7999a8cabfc07f2d662272606e949f8d4dd381e893b68fbab3399cd2996e7063b1d60dbbbee55fc8d10741",
		},
	} {
		k, e := bls.Key(counted(x.drawn), counted(x.info))
		key, public, sig := k.Bytes(), codec.G1(bls.Public(k)), codec.G2(bls.Sign(k, counted(x.info)))
		if e != api.OK || hex.EncodeToString(key[:]) != x.key || hex.EncodeToString(public[:]) != x.public || hex.EncodeToString(sig[:]) != x.sig {
			t.Errorf("%d bytes drawn, %d as info: %d, %x, %x, %x", x.drawn, x.info, e, key, public, sig)
		}
	}
}

// P13.3: a round of a beacon in public use, under this tag, of which nobody knows the secret key.
func TestVerifyKnown(t *testing.T) {
	key, e := codec.ReadG1(unhex(t, "868f005eb8e6e4ca0a47c8a77ceaa5309a47978a7c71bc5cce96366b5d7a569937c529eeda66c7293784a9402801af31"))
	if e != api.OK {
		t.Fatal(e)
	}
	ahead := unhex(t, "a609e19a03c2fcc559e8dae14900aaefe517cb55c840f6e69bc8e4f66c8d18e8a609685d9917efbfb0c37f058c2de88f13d297c7e19e0ab24813079efe57a182554ff054c7638153f9b26a60e7111f71a0ff63d9571704905d3ca6df0b031747")
	sig, e := codec.ReadG2(unhex(t, "82f5d3d2de4db19d40a6980e8aa37842a0e55d1df06bd68bddc8d60002e8e959eb9cfa368b3c1b77d18f02a54fe047b80f0989315f83b12a74fd8679c4f12aae86eaf6ab5690b34f1fddd50ee3cc6f6cdf59e95526d5a5d82aaa84fa6f181e42"))
	if e != api.OK {
		t.Fatal(e)
	}
	for round := uint64(72784); round <= 72786; round++ {
		msg := sha256.Sum256(binary.BigEndian.AppendUint64(bytes.Clone(ahead), round))
		if bls.Verify(key, msg[:], sig) != (round == 72785) {
			t.Errorf("round %d", round)
		}
	}
}

// P13.3: with scalars for which it is known, P{} among them, and as Pair has it.
func TestFits(t *testing.T) {
	all := append(keys(3), fr.El{})
	for _, a := range all {
		for _, b := range all {
			key, point := g1.Gen().Mul(a), g2.Gen().Mul(b)
			what := fmt.Sprintf("key %x, point %x", a.Bytes(), b.Bytes())
			right := g2.Gen().Mul(a.Mul(b))
			if !bls.Fits(key, point, right) || pairing.Pair(key, point) != pairing.Pair(g1.Gen(), right) {
				t.Errorf("%s: what fits doesn't", what)
			}
			for i, sig := range []g2.P{right.Neg(), right.Add(g2.Gen()), right.Add(right), {}, g2.Gen(), point} {
				if bls.Fits(key, point, sig) != (sig == right) {
					t.Errorf("%s: wrong %d", what, i)
				}
			}
		}
	}
}

// P13.3: Fits, unlike Verify, takes a key that is P{}, which only P{} fits.
func TestFitsNought(t *testing.T) {
	point := bls.Point(nil)
	if !bls.Fits(g1.P{}, point, g2.P{}) || !bls.Fits(g1.P{}, g2.P{}, g2.P{}) || !bls.Fits(g1.Gen(), g2.P{}, g2.P{}) {
		t.Error("nought doesn't fit nought")
	}
	if bls.Fits(g1.P{}, point, point) || bls.Fits(g1.Gen(), g2.P{}, point) || bls.Fits(g1.Gen(), point, g2.P{}) {
		t.Error("nought fits more")
	}
}

// P13.3, P13.4: of each key and each text the signature verifies, and no other point of the group.
func TestVerify(t *testing.T) {
	for i, k := range keys(4) {
		key := bls.Public(k)
		for m, msg := range texts() {
			sig := bls.Sign(k, msg)
			if !bls.Verify(key, msg, sig) {
				t.Errorf("key %d, text %d: the signature doesn't verify", i, m)
			}
			for n, wrong := range []g2.P{{}, sig.Neg(), sig.Add(sig), sig.Add(g2.Gen()), sig.Add(bls.Point(msg)), bls.Sign(k, append(bytes.Clone(msg), 0)), bls.Sign(k.Add(fr.Of(3)), msg)} {
				if bls.Verify(key, msg, wrong) {
					t.Errorf("key %d, text %d: wrong point %d verifies", i, m, n)
				}
			}
			if bls.Verify(key.Neg(), msg, sig) || bls.Verify(key.Add(g1.Gen()), msg, sig) || bls.Verify(key, append(bytes.Clone(msg), 0), sig) {
				t.Errorf("key %d, text %d: the signature verifies elsewhere", i, m)
			}
		}
	}
}

// P13.4: one point alone, of the group's points by their scalars.
func TestVerifyJustOne(t *testing.T) {
	msg := []byte("round 1")
	key, point := bls.Public(fr.Of(7)), bls.Point(msg)
	sig := g2.P{}
	for n := range 20 {
		if bls.Verify(key, msg, sig) != (n == 7) {
			t.Errorf("the text's point taken %d times", n)
		}
		sig = sig.Add(point)
	}
}

// P13.3: no signature verifies by the key P{}, nor that of the key 0.
func TestVerifyNoKey(t *testing.T) {
	for _, msg := range texts() {
		for i, sig := range []g2.P{{}, bls.Sign(fr.El{}, msg), bls.Point(msg), g2.Gen()} {
			if bls.Verify(g1.P{}, msg, sig) || bls.Verify(bls.Public(fr.El{}), msg, sig) {
				t.Errorf("point %d of %d bytes verifies by P{}", i, len(msg))
			}
		}
	}
}

// strangers are points of the first curve that are not of the group, of orders 3 and more; what is taken r times has no part in the group.
func strangers() []g1.P {
	all := []g1.P{{Y: fp.Of(2)}, {Y: fp.Of(2).Neg()}}
	for x := uint64(1); len(all) < 10; x++ {
		y, ok := fp.Of(x*x*x + 4).Sqrt()
		if ok {
			p := g1.P{X: fp.Of(x), Y: y}
			all = append(all, p, p.Times(order.Bytes()))
		}
	}
	return all
}

// P13.3: a key of the curve that is not of the group. The pairing alone tells nothing of what has no part in the group.
func TestVerifyKeyNotOfGroup(t *testing.T) {
	k, msg := fr.Of(5), []byte("round 1")
	key, sig := bls.Public(k), bls.Sign(k, msg)
	for i, p := range strangers() {
		if !p.On() || p.In() {
			t.Fatalf("stranger %d is none", i)
		}
		if bls.Verify(key.Add(p), msg, sig) || bls.Verify(p, msg, sig) || bls.Verify(p, msg, g2.P{}) {
			t.Errorf("it verifies by stranger %d", i)
		}
	}
}

// P13.3: a signature of the curve that is not of the group.
func TestVerifySigNotOfGroup(t *testing.T) {
	k, msg := fr.Of(5), []byte("round 1")
	key, sig := bls.Public(k), bls.Sign(k, msg)
	for n := range uint64(6) {
		p := h2c.Map(fp2.Small(n, 1))
		for _, p := range []g2.P{p, p.Times(order.Bytes())} {
			if !p.On() || p.In() {
				t.Fatalf("stranger %d is none", n)
			}
			if bls.Verify(key, msg, sig.Add(p)) || bls.Verify(key, msg, p) {
				t.Errorf("stranger %d verifies", n)
			}
		}
	}
}

// P13.3: keys and signatures that are on no curve: false, and each call ends.
func TestVerifyNoPoints(t *testing.T) {
	k, msg := fr.Of(5), []byte("round 1")
	key, sig := bls.Public(k), bls.Sign(k, msg)
	one, unit := fp.Of(1), fp2.Small(1, 0)
	for i, p := range []g1.P{{X: key.X}, {Y: key.Y}, {X: key.Y, Y: key.X}, {X: key.X, Y: key.Y.Add(one)}, {X: key.X.Add(one), Y: key.Y}, {X: one, Y: one}, {X: one}, {Y: one}} {
		if p.On() {
			t.Fatalf("key %d is on the curve", i)
		}
		if bls.Verify(p, msg, sig) || bls.Verify(p, msg, g2.P{}) {
			t.Errorf("it verifies by key %d", i)
		}
		bls.Fits(p, bls.Point(msg), sig)
	}
	for i, p := range []g2.P{{X: sig.X}, {Y: sig.Y}, {X: sig.Y, Y: sig.X}, {X: sig.X, Y: sig.X}, {X: sig.X, Y: sig.Y.Add(unit)}, {X: sig.X.Add(unit), Y: sig.Y}, {X: sig.X.Conj(), Y: sig.Y}, {X: unit}, {Y: unit}} {
		if p.On() {
			t.Fatalf("signature %d is on the curve", i)
		}
		if bls.Verify(key, msg, p) || bls.Verify(g1.P{}, msg, p) {
			t.Errorf("signature %d verifies", i)
		}
		bls.Fits(key, p, sig)
		bls.Fits(key, sig, p)
	}
}

// P13.4: sums of keys sign with sums of signatures.
func TestSums(t *testing.T) {
	all, msg := keys(5), []byte("round 1")
	var k fr.El
	var key g1.P
	var sig g2.P
	for i, next := range all {
		k, key, sig = k.Add(next), key.Add(bls.Public(next)), sig.Add(bls.Sign(next, msg))
		if key != bls.Public(k) || sig != bls.Sign(k, msg) || bls.Verify(key, msg, sig) == k.Zero() {
			t.Errorf("the first %d keys", i+1)
		}
	}
}

// P13.2, P13.3: what is handed in stays as it is, the room behind it included.
func TestTextsStay(t *testing.T) {
	kept, k := counted(100), fr.Of(5)
	msg := bytes.Clone(kept)
	for _, n := range []int{0, 1, 55, 64} {
		sig := bls.Sign(k, msg[:n])
		if bls.Point(msg[:n]).Mul(k) != sig || !bls.Verify(bls.Public(k), msg[:n], sig) || sig != bls.Sign(k, counted(n)) {
			t.Errorf("a text of %d bytes: what lies behind it counts", n)
		}
		if !bytes.Equal(msg, kept) {
			t.Fatalf("a text of %d bytes was changed", n)
		}
	}
}

func BenchmarkSign(b *testing.B) {
	k, msg := fr.Of(1).Neg(), make([]byte, 32)
	for b.Loop() {
		msg[0]++
		bls.Sign(k, msg)
	}
}

func BenchmarkVerify(b *testing.B) {
	k, msg := fr.Of(1).Neg(), make([]byte, 32)
	key, sig := bls.Public(k), bls.Sign(k, msg)
	for b.Loop() {
		bls.Verify(key, msg, sig)
	}
}
