// Package wire encodes values as bytes (layer 1, shared/doc/01-wire.md).
// Every value has exactly one encoding, and decoding accepts nothing else.
package wire

import "voxel/api"

const (
	digitBits  = 7
	more       = 1 << digitBits // added to every digit that another one follows
	maxIntSize = 10             // 64 bits in digits of 7 bits
)

// Int returns the encoding of an integer.
func Int(n int) []byte { return putInt(nil, n) }

// GetInt decodes an integer at the beginning of a byte sequence.
func GetInt(b []byte) (int, int, api.Errno) {
	var z uint64
	i := 0
digits:
	for {
		switch {
		case i == len(b):
			return 0, 0, api.ErrTruncated
		case i == maxIntSize-1 && b[i] > 1: // more than 64 bits, or no end
			return 0, 0, api.ErrEncoding
		case i > 0 && b[i] == 0: // a shorter encoding exists
			return 0, 0, api.ErrEncoding
		case b[i] < more:
			break digits
		}
		z |= uint64(b[i]-more) << (digitBits * i)
		i++
	}
	z |= uint64(b[i]) << (digitBits * i)
	return unfold(z), i + 1, api.OK
}

// Bytes returns the encoding of a byte string.
func Bytes(s string) []byte { return putBytes(nil, s) }

// GetBytes decodes a byte string at the beginning of a byte sequence.
func GetBytes(b []byte) (string, int, api.Errno) {
	size, used, e := getLength(b, 1)
	if e != api.OK {
		return "", 0, e
	}
	return string(b[used : used+size]), used + size, api.OK
}

// Ints returns the encoding of a list of integers.
func Ints(l []int) []byte { return list(l, putInt) }

// GetInts decodes a list of integers at the beginning of a byte sequence.
func GetInts(b []byte) ([]int, int, api.Errno) { return getList(b, 1, GetInt) }

// Strings returns the encoding of a list of byte strings.
func Strings(l []string) []byte { return list(l, putBytes) }

// GetStrings decodes a list of byte strings at the beginning of a byte sequence.
func GetStrings(b []byte) ([]string, int, api.Errno) { return getList(b, 1, GetBytes) }

// Digests returns the encoding of a list of digests.
func Digests(l []api.Digest) []byte { return list(l, putDigest) }

// GetDigests decodes a list of digests at the beginning of a byte sequence.
func GetDigests(b []byte) ([]api.Digest, int, api.Errno) {
	return getList(b, api.DigestSize, getDigest)
}

// fold maps the integers to numbers from 0 on, in the order 0, -1, 1, -2, 2 and so on.
func fold(n int) uint64 {
	z := uint64(n) << 1
	if n < 0 {
		z = ^z
	}
	return z
}

// unfold is the inverse of fold.
func unfold(z uint64) int {
	n := int(z >> 1)
	if z%2 == 1 {
		n = ^n
	}
	return n
}

func putInt(b []byte, n int) []byte {
	z := fold(n)
	for ; z >= more; z >>= digitBits {
		b = append(b, byte(z%more)+more)
	}
	return append(b, byte(z))
}

func putBytes(b []byte, s string) []byte {
	return append(putInt(b, len(s)), s...)
}

func putDigest(b []byte, d api.Digest) []byte {
	return append(b, d[:]...)
}

// getDigest is called only where a digest follows: getLength has counted the bytes.
func getDigest(b []byte) (api.Digest, int, api.Errno) {
	var d api.Digest
	n := copy(d[:], b)
	return d, n, api.OK
}

// list encodes a list whose elements put appends one by one.
func list[T any](l []T, put func([]byte, T) []byte) []byte {
	b := putInt(nil, len(l))
	for _, v := range l {
		b = put(b, v)
	}
	return b
}

// getLength decodes the number of elements that follow, of at least size bytes each.
// It refuses what cannot follow, so that nobody allocates memory for it.
func getLength(b []byte, size int) (int, int, api.Errno) {
	n, used, e := GetInt(b)
	switch {
	case e != api.OK:
		return 0, 0, e
	case n < 0:
		return 0, 0, api.ErrEncoding
	case n > (len(b)-used)/size: // a product could overflow
		return 0, 0, api.ErrTruncated
	}
	return n, used, api.OK
}

// getList decodes a list of elements of at least size bytes each, each of which get decodes.
func getList[T any](b []byte, size int, get func([]byte) (T, int, api.Errno)) ([]T, int, api.Errno) {
	count, used, e := getLength(b, size)
	if e != api.OK {
		return nil, 0, e
	}
	l := make([]T, 0, count)
	for range count {
		v, n, e := get(b[used:])
		if e != api.OK {
			return nil, 0, e
		}
		l = append(l, v)
		used += n
	}
	return l, used, api.OK
}
