package kdf_test

import (
	"crypto/hkdf"
	"crypto/hmac"
	"hash"

	"isthmus/blake"
)

// What the chapter asks for, once more: the library's own HMAC and HKDF, over
// blake. TestVectors and TestFolded hold the package against bytes from elsewhere.

type digest struct{ all *blake.Hash }

func newDigest() hash.Hash {
	d := &digest{}
	d.Reset()
	return d
}

func (d *digest) Reset()              { d.all, _ = blake.New(32, "") }
func (d *digest) Size() int           { return 32 }
func (d *digest) BlockSize() int      { return 64 }
func (d *digest) Sum(b []byte) []byte { return append(b, d.all.Sum()...) }
func (d *digest) Write(b []byte) (int, error) {
	d.all.Add(string(b))
	return len(b), nil
}

func wantTag(key, s string) string {
	m := hmac.New(newDigest, []byte(key))
	m.Write([]byte(s))
	return string(m.Sum(nil))
}

func wantBytes(key, info string, n int) string {
	b, err := hkdf.Expand(newDigest, []byte(key), info, n)
	if err != nil {
		panic(err)
	}
	return string(b)
}

func wantTexts(key, s string, n int) []string {
	made, err := hkdf.Extract(newDigest, []byte(s), []byte(key))
	if err != nil {
		panic(err)
	}
	all := wantBytes(string(made), "", 96)
	return []string{all[:32], all[32:64], all[64:]}[:n]
}
