package xmd_test

import (
	"bytes"
	"crypto/sha256"
	"encoding/hex"
	"fmt"
	"math"
	"math/big"
	"strings"
	"testing"

	"cresset/api"
	"cresset/fp"
	"cresset/fp2"
	"cresset/xmd"
)

const (
	modulusHex = "1a0111ea397fe69a4b1ba7b6434bacd764774b84f38512bf6730d2a0f6b0f6241eabfffeb153ffffb9feffffffffaaab"
	shortTag   = "QUUX-V01-CS02-with-expander-SHA256-128"
	hashTag    = "QUUX-V01-CS02-with-BLS12381G2_XMD:SHA-256_SSWU_RO_"
)

// longTag has 256 bytes: one more than a tag that stands for itself.
var longTag = shortTag + "-long-DST-" + strings.Repeat("1", 208)

// texts are those of the RFC's examples.
func texts() []string {
	return []string{"", "abc", "abcdef0123456789", "q128_" + strings.Repeat("q", 128), "a512_" + strings.Repeat("a", 512)}
}

// counted are n bytes, each another than its neighbours.
func counted(n int) []byte {
	b := make([]byte, n)
	for i := range b {
		b[i] = byte(7*i + i>>8)
	}
	return b
}

// digest is that of pieces by the library.
func digest(pieces ...[]byte) []byte {
	sum := sha256.Sum256(bytes.Join(pieces, nil))
	return sum[:]
}

// model is what Expand must answer, by the chapter's words.
func model(msg, tag []byte, n int) []byte {
	if len(tag) > 255 {
		tag = digest([]byte("H2C-OVERSIZE-DST-"), tag)
	}
	end := append(bytes.Clone(tag), byte(len(tag)))
	first := digest(make([]byte, 64), msg, []byte{byte(n / 256), byte(n % 256)}, []byte{0}, end)
	last := digest(first, []byte{1}, end)
	out := bytes.Clone(last)
	for i := 2; len(out) < n; i++ {
		over := make([]byte, 32)
		for k := range over {
			over[k] = first[k] ^ last[k]
		}
		last = digest(over, []byte{byte(i)}, end)
		out = append(out, last...)
	}
	return out[:n]
}

// check holds what Expand answers against the model.
func check(t *testing.T, msg, tag []byte, n int) {
	t.Helper()
	got, e := xmd.Expand(msg, tag, n)
	if e != api.OK || !bytes.Equal(got, model(msg, tag, n)) {
		t.Errorf("Expand of %d bytes, with a tag of %d, n %d: %d, and %x", len(msg), len(tag), n, e, got)
	}
}

// P11.1: the RFC's own examples, with a tag that stands for itself and with one that is too long.
func TestExpandKnown(t *testing.T) {
	for _, x := range []struct {
		tag   string
		brief []string // of 32 bytes
	}{
		{shortTag, []string{
			"68a985b87eb6b46952128911f2a4412bbc302a9d759667f87f7a21d803f07235",
			"d8ccab23b5985ccea865c6c97b6e5b8350e794e603b4b97902f53a8a0d605615",
			"eff31487c770a893cfb36f912fbfcbff40d5661771ca4b2cb4eafe524333f5c1",
			"b23a1d2b4d97b2ef7785562a7e8bac7eed54ed6e97e29aa51bfe3f12ddad1ff9",
			"4623227bcc01293b8c130bf771da8c298dede7383243dc0993d2d94823958c4c",
		}},
		{longTag, []string{
			"e8dc0c8b686b7ef2074086fbdd2f30e3f8bfbd3bdf177f73f04b97ce618a3ed3",
			"52dbf4f36cf560fca57dedec2ad924ee9c266341d8f3d6afe5171733b16bbb12",
			"35387dcf22618f3728e6c686490f8b431f76550b0b2c61cbc1ce7001536f4521",
			"01b637612bb18e840028be900a833a74414140dde0c4754c198532c3a0ba42bc",
			"20cce7033cabc5460743180be6fa8aac5a103f56d481cf369a8accc0c374431b",
		}},
	} {
		for i, text := range texts() {
			got, e := xmd.Expand([]byte(text), []byte(x.tag), 32)
			if e != api.OK || hex.EncodeToString(got) != x.brief[i] {
				t.Errorf("Expand of %q, tag %q: %d, and %x", text, x.tag, e, got)
			}
		}
	}
	for tag, want := range map[string]string{
		shortTag: "abba86a6129e366fc877aab32fc4ffc70120d8996c88aee2fe4b32d6c7b6437a647e6c3163d40b76a73cf6a5674ef1d890f95b664ee0afa5359a5c4e07985635bbecbac65d747d3d2da7ec2b8221b17b0ca9dc8a1ac1c07ea6a1e60583e2cb00058e77b7b72a298425cd1b941ad4ec65e8afc50303a22c0f99b0509b4c895f40",
		longTag:  "1a30a5e36fbdb87077552b9d18b9f0aee16e80181d5b951d0471d55b66684914aef87dbb3626eaabf5ded8cd0686567e503853e5c84c259ba0efc37f71c839da2129fe81afdaec7fbdc0ccd4c794727a17c0d20ff0ea55e1389d6982d1241cb8d165762dbc39fb0cee4474d2cbbd468a835ae5b2f20e4f959f56ab24cd6fe267",
	} {
		got, e := xmd.Expand([]byte("abc"), []byte(tag), 128)
		if e != api.OK || hex.EncodeToString(got) != want {
			t.Errorf("Expand of abc, tag %q, n 128: %d, and %x", tag, e, got)
		}
	}
}

// P11.1: n from 0 to the most, about each digest's end and about the ends of the bytes that tell n.
func TestExpandCounts(t *testing.T) {
	if xmd.Most != 8160 {
		t.Error("Most: ", xmd.Most)
	}
	for n := 0; n <= 8160; n++ {
		if n < 300 || n%256 < 2 || n%32 < 2 || n%32 == 31 || n > 8100 {
			check(t, []byte("text"), []byte("tag"), n)
		}
	}
}

// P11.1: messages of all lengths about the digest's blocks.
func TestExpandMessages(t *testing.T) {
	for n := range 200 {
		check(t, counted(n), []byte(shortTag), 96)
	}
	check(t, counted(1<<20), []byte(shortTag), 96)
}

// P11.1: tags of all lengths: from 256 bytes on a digest stands for them.
func TestExpandTags(t *testing.T) {
	for n := range 600 {
		check(t, []byte("text"), counted(n), 96)
	}
	check(t, nil, counted(1<<16), 65)
	tag := counted(256)
	long, _ := xmd.Expand([]byte("text"), tag, 64)
	stands, _ := xmd.Expand([]byte("text"), digest([]byte("H2C-OVERSIZE-DST-"), tag), 64)
	if !bytes.Equal(long, stands) {
		t.Error("a tag of 256 bytes is not the digest that stands for it")
	}
	own, _ := xmd.Expand([]byte("text"), tag[:255], 64)
	stands, _ = xmd.Expand([]byte("text"), digest([]byte("H2C-OVERSIZE-DST-"), tag[:255]), 64)
	if bytes.Equal(own, stands) {
		t.Error("a tag of 255 bytes does not stand for itself")
	}
}

// P11.1: other messages, tags and counts make other bytes, also where they lie behind one another alike.
func TestExpandDiffers(t *testing.T) {
	seen := map[string]string{}
	for _, x := range []struct {
		msg, tag string
		n        int
	}{
		{"", "", 64}, {"a", "", 64}, {"", "a", 64}, {"ab", "c", 64}, {"a", "bc", 64}, {"ab", "c", 65}, {"ab", "c", 320}, {"ab", "c\x01", 64}, {"\x00", "", 64},
	} {
		b, e := xmd.Expand([]byte(x.msg), []byte(x.tag), x.n)
		if e != api.OK || len(b) != x.n {
			t.Fatalf("Expand of %q, %q, %d: %d", x.msg, x.tag, x.n, e)
		}
		what, begin := fmt.Sprintf("%q, %q, %d", x.msg, x.tag, x.n), string(b[:32])
		if other, is := seen[begin]; is {
			t.Errorf("%s begins as %s", what, other)
		}
		seen[begin] = what
	}
}

// P11.1: ErrArg, and nothing beside it, of every n that is too small or too great.
func TestExpandWrong(t *testing.T) {
	for _, n := range []int{-1, -2, -32, -8160, -1 << 16, math.MinInt, 8161, 8192, 1 << 16, 1<<16 + 32, 1 << 32, math.MaxInt} {
		for _, tag := range [][]byte{nil, []byte("tag"), counted(300)} {
			if b, e := xmd.Expand([]byte("text"), tag, n); e != api.ErrArg || len(b) != 0 {
				t.Errorf("Expand, n %d: %d, and %d bytes", n, e, len(b))
			}
		}
	}
}

// P11.1: nil and empty are one.
func TestExpandNil(t *testing.T) {
	a, e := xmd.Expand(nil, nil, 40)
	b, f := xmd.Expand([]byte{}, []byte{}, 40)
	if e != api.OK || f != api.OK || !bytes.Equal(a, b) || !bytes.Equal(a, model(nil, nil, 40)) {
		t.Errorf("Expand of nil: %x, of empty ones: %x", a, b)
	}
}

// P11.1, P11.2: what is handed in stays as it is, the room behind it included, and answers share nothing.
func TestArgumentsStay(t *testing.T) {
	for _, n := range []int{3, 255, 256} {
		msg, tag := counted(600), counted(700)
		short, _ := xmd.Expand(msg[:n], tag[:n], 40)
		kept := bytes.Clone(short)
		again, _ := xmd.Expand(msg[:n], tag[:n], 40)
		numbers, _ := xmd.Numbers(msg[:n], tag[:n], 2)
		if !bytes.Equal(msg, counted(600)) || !bytes.Equal(tag, counted(700)) {
			t.Errorf("an argument of %d bytes was changed", n)
		}
		clear(again[:cap(again)])
		clear(msg)
		clear(tag)
		if !bytes.Equal(short, kept) || len(numbers) != 2 || numbers[0].Zero() || numbers[1].Zero() {
			t.Error("an answer was changed from outside")
		}
	}
}

// number is what bytes are modulo p, by the library.
func number(t testing.TB, b []byte) fp.El {
	t.Helper()
	modulus, _ := new(big.Int).SetString(modulusHex, 16)
	n := new(big.Int).SetBytes(b)
	var own [fp.Size]byte
	x, e := fp.Read(n.Mod(n, modulus).FillBytes(own[:]))
	if e != api.OK {
		t.Fatalf("fp.Read of %x: %d", own, e)
	}
	return x
}

// P11.2: each 128 bytes are a number, its first part ahead, at every count.
func TestNumbers(t *testing.T) {
	for count := range 64 {
		for _, tag := range [][]byte{[]byte("tag"), counted(300)} {
			numbers, e := xmd.Numbers([]byte("text"), tag, count)
			if e != api.OK || len(numbers) != count {
				t.Fatalf("Numbers, count %d: %d, and %d", count, e, len(numbers))
			}
			all := model([]byte("text"), tag, 128*count)
			for i, got := range numbers {
				b := all[128*i : 128*i+128]
				if want := (fp2.El{A: number(t, b[:64]), B: number(t, b[64:])}); got != want {
					t.Errorf("Numbers, count %d: number %d is %x, not %x", count, i, got.Bytes(), want.Bytes())
				}
			}
		}
	}
}

// P11.2: messages of several lengths, and none.
func TestNumbersMessages(t *testing.T) {
	for n := range 70 {
		numbers, e := xmd.Numbers(counted(n), nil, 1)
		b := model(counted(n), nil, 128)
		if e != api.OK || len(numbers) != 1 || numbers[0] != (fp2.El{A: number(t, b[:64]), B: number(t, b[64:])}) {
			t.Errorf("Numbers of %d bytes: %d", n, e)
		}
	}
}

// P11.2: the RFC's own examples.
func TestNumbersKnown(t *testing.T) {
	for i, want := range [][4]string{
		{
			"03dbc2cce174e91ba93cbb08f26b917f98194a2ea08d1cce75b2b9cc9f21689d80bd79b594a613d0a68eb807dfdc1cf8",
			"05a2acec64114845711a54199ea339abd125ba38253b70a92c876df10598bd1986b739cad67961eb94f7076511b3b39a",
			"02f99798e8a5acdeed60d7e18e9120521ba1f47ec090984662846bc825de191b5b7641148c0dbc237726a334473eee94",
			"145a81e418d4010cc027a68f14391b30074e89e60ee7a22f87217b2f6eb0c4b94c9115b436e6fa4607e95a98de30a435",
		},
		{
			"15f7c0aa8f6b296ab5ff9c2c7581ade64f4ee6f1bf18f55179ff44a2cf355fa53dd2a2158c5ecb17d7c52f63e7195771",
			"01c8067bf4c0ba709aa8b9abc3d1cef589a4758e09ef53732d670fd8739a7274e111ba2fcaa71b3d33df2a3a0c8529dd",
			"187111d5e088b6b9acfdfad078c4dacf72dcd17ca17c82be35e79f8c372a693f60a033b461d81b025864a0ad051a06e4",
			"08b852331c96ed983e497ebc6dee9b75e373d923b729194af8e72a051ea586f3538a6ebb1e80881a082fa2b24df9f566",
		},
	} {
		text := texts()[i]
		numbers, e := xmd.Numbers([]byte(text), []byte(hashTag), 2)
		if e != api.OK || len(numbers) != 2 {
			t.Fatalf("Numbers of %q: %d, and %d", text, e, len(numbers))
		}
		for k, got := range []fp.El{numbers[0].A, numbers[0].B, numbers[1].A, numbers[1].B} {
			if b := got.Bytes(); hex.EncodeToString(b[:]) != want[k] {
				t.Errorf("Numbers of %q: part %d is %x", text, k, b)
			}
		}
	}
}

// P11.2: ErrArg, and nothing beside it, of every count that is too small or too great, also where 128 times it is beyond an int and comes round again.
func TestNumbersWrong(t *testing.T) {
	for _, count := range []int{-1, -2, -63, math.MinInt, math.MinInt + 1, 64, 65, 100, 1 << 25, 1<<25 + 1, 1 << 57, 1<<57 + 1, 1<<58 + 2, math.MaxInt} {
		if numbers, e := xmd.Numbers([]byte("text"), []byte("tag"), count); e != api.ErrArg || len(numbers) != 0 {
			t.Errorf("Numbers, count %d: %d, and %d", count, e, len(numbers))
		}
	}
}

func BenchmarkNumbers(b *testing.B) {
	text := make([]byte, 32)
	for b.Loop() {
		numbers, _ := xmd.Numbers(text, []byte(hashTag), 2)
		text[0] = numbers[0].Bytes()[0]
	}
}
