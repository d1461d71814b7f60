package envelope_test

import (
	"math"
	"slices"
	"testing"

	"pawl/api"
	"pawl/envelope"
)

// P10.1 and P10.2

// Examples 1 and 2, and more of the buckets that the words name.
func TestBucketExamples(t *testing.T) {
	for _, x := range []struct {
		version, n, bucket int
		e                  api.Errno
	}{
		{1, 0, 64, api.OK}, {1, 60, 64, api.OK}, {1, 61, 128, api.OK}, {1, 124, 128, api.OK}, {1, 125, 256, api.OK},
		{2, 0, 64, api.OK}, {2, 60, 64, api.OK}, {2, 61, 72, api.OK}, {2, 69, 80, api.OK}, {2, 116, 120, api.OK}, {2, 117, 128, api.OK},
		{2, 124, 128, api.OK}, {2, 125, 144, api.OK}, {2, 236, 240, api.OK}, {2, 237, 256, api.OK}, {2, 252, 256, api.OK}, {2, 253, 288, api.OK},
		{1, 1048572, 1048576, api.OK}, {1, 1048573, 2097152, api.OK}, {1, 1048576, 2097152, api.OK},
		{2, 1048572, 1048576, api.OK}, {2, 1048573, 1179648, api.OK}, {2, 1048576, 1179648, api.OK},
		{1, 1048577, 0, api.ErrLong}, {2, 1048577, 0, api.ErrLong}, {3, -1, 0, api.ErrVersion}, {2, -1, 0, api.ErrArg}, {1, -1, 0, api.ErrArg},
	} {
		if b, e := envelope.Bucket(x.version, x.n); b != x.bucket || e != x.e {
			t.Errorf("Bucket(%d, %d): %d, %v, not %d, %v", x.version, x.n, b, e, x.bucket, x.e)
		}
	}
}

func TestLengthExamples(t *testing.T) {
	for _, x := range []struct {
		version, n, length int
		e                  api.Errno
	}{
		{1, 0, 164, api.OK}, {1, 60, 164, api.OK}, {1, 61, 229, api.OK}, {2, 0, 164, api.OK}, {2, 61, 172, api.OK},
		{2, 92, 83 + 1 + 112, api.OK}, {2, 93, 83 + 1 + 120, api.OK}, {2, 101, 83 + 2 + 128, api.OK},
		{1, mostPlain, 83 + 4 + 2097168, api.OK}, {2, mostPlain, 83 + 3 + 1179664, api.OK},
		{1, mostPlain + 1, 0, api.ErrLong}, {2, -1, 0, api.ErrArg}, {0, 0, 0, api.ErrVersion},
	} {
		if n, e := envelope.Length(x.version, x.n); n != x.length || e != x.e {
			t.Errorf("Length(%d, %d): %d, %v, not %d, %v", x.version, x.n, n, e, x.length, x.e)
		}
	}
}

// Every number of bytes in both versions, against the list of buckets, gone through once; and P10.9's bounds, and how buckets and lengths rise together.
func TestBucketAndLengthOfAll(t *testing.T) {
	for _, v := range versions {
		buckets := bucketsByWords(v)
		last, lastLength := 0, 0
		for n := range mostPlain + 1 {
			for buckets[0] < n+4 {
				buckets = buckets[1:]
			}
			b, e := envelope.Bucket(v, n)
			if b != buckets[0] || e != api.OK {
				t.Fatalf("Bucket(%d, %d): %d, %v, not %d", v, n, b, e, buckets[0])
			}
			if b < n+4 || b < last {
				t.Fatalf("Bucket(%d, %d): %d, behind %d", v, n, b, last)
			}
			if n >= 60 && (v == 1 && b >= 2*(n+4) || v == 2 && 8*b >= 9*(n+4)) {
				t.Fatalf("Bucket(%d, %d): %d is too great", v, n, b)
			}
			length, e := envelope.Length(v, n)
			if e != api.OK || length < lastLength || (length == lastLength) != (b == last) {
				t.Fatalf("Length(%d, %d): %d, %v, behind %d; the buckets %d, %d", v, n, length, e, lastLength, b, last)
			}
			last, lastLength = b, length
		}
		if last != buckets[0] || last != map[int]int{1: 2097152, 2: 1179648}[v] {
			t.Errorf("version %d ends at %d", v, last)
		}
	}
}

// Version 1's buckets are buckets of version 2, whose other ones are not version 1's.
func TestBucketsOfBoth(t *testing.T) {
	for _, n := range edges() {
		one, _ := envelope.Bucket(1, n)
		two, _ := envelope.Bucket(2, n)
		if two > one || (two == one) != (two&(two-1) == 0) {
			t.Errorf("of %d bytes: %d and %d", n, one, two)
		}
	}
}

// The errors in their order, of both calls, and of Pad by its length: a version that is not known ahead of a number that can't be.
func TestBucketRefuses(t *testing.T) {
	below := []int{math.MinInt, math.MinInt + 1, -1 << 32, -4096, -65, -64, -5, -4, -3, -2, -1}
	beyond := []int{mostPlain + 1, mostPlain + 2, mostPlain + 4, 2*mostPlain - 4, 1<<31 - 1, 1 << 31, 1 << 32, 1<<32 + 5, math.MaxInt - 4, math.MaxInt - 3, math.MaxInt}
	hold := func(version, n int, want api.Errno) {
		t.Helper()
		if b, e := envelope.Bucket(version, n); b != 0 || e != want {
			t.Errorf("Bucket(%d, %d): %d, %v, not %v", version, n, b, e, want)
		}
		if b, e := envelope.Length(version, n); b != 0 || e != want {
			t.Errorf("Length(%d, %d): %d, %v, not %v", version, n, b, e, want)
		}
	}
	for _, v := range versions {
		for _, n := range below {
			hold(v, n, api.ErrArg)
		}
		for _, n := range beyond {
			hold(v, n, api.ErrLong)
		}
	}
	for _, v := range unknown {
		for _, n := range slices.Concat(below, beyond, []int{0, 1, 60, 61, mostPlain}) {
			hold(v, n, api.ErrVersion)
		}
	}
}

// P10.9: Length tells how many bytes Pack makes of a padded plain text with a tag's room behind it, at each edge of the short ones, and of all buckets.
func TestLengthIsOfPack(t *testing.T) {
	d := newDrawer(401)
	for _, n := range edges() {
		for _, v := range versions {
			bucket, _ := bucketByWords(v, n)
			if n > 5000 && n != bucket-4 && n != mostPlain {
				continue
			}
			body, e := envelope.Pad(v, d.bytes(n))
			if e != api.OK {
				t.Fatalf("Pad(%d, of %d): %v", v, n, e)
			}
			env := d.envelope(v, 0)
			env.Body = append(body, d.bytes(16)...)
			b, err := envelope.Pack(env)
			length, e := envelope.Length(v, n)
			if err != nil || e != api.OK || len(b) != length || len(b) != len(bytesByWords(env)) {
				t.Fatalf("version %d, %d bytes: Pack makes %d, %v, Length tells %d, %v", v, n, len(b), err, length, e)
			}
		}
	}
}
