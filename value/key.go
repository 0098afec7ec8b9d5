package value

import (
	"strings"

	"dumbwaiter/api"
)

// keyZero is the number that stands in a key for N = 0: with it the bytes of negative numbers come ahead of those of others.
const keyZero = 1 << 62

// FNV-1a with 64 bits.
const (
	hashStart  = 14695981039346656037
	hashFactor = 1099511628211
)

// Key returns the bytes of a list.
func Key(l []api.Value) []byte {
	var b []byte
	for _, v := range l {
		b = appendKey(b, clean(v))
	}
	return b
}

// appendKey appends the bytes of a right value.
func appendKey(b []byte, v api.Value) []byte {
	b = append(b, byte(v.Kind))
	switch v.Kind {
	case api.Null:
		return b
	case api.Text:
		return append(append(b, v.S...), 0)
	}
	n := uint64(v.N + keyZero)
	for shift := 56; shift >= 0; shift -= 8 {
		b = append(b, byte(n>>shift))
	}
	return b
}

// FromKey returns the list with a key.
func FromKey(b []byte) ([]api.Value, api.Errno) {
	var l []api.Value
	rest := string(b)
	for rest != "" {
		v, size, e := firstOfKey(rest)
		if e != api.OK {
			return nil, e
		}
		l = append(l, v)
		rest = rest[size:]
	}
	return l, api.OK
}

// firstOfKey returns the first value of a key that is not empty, and the number of its bytes.
func firstOfKey(key string) (api.Value, int, api.Errno) {
	v := api.Value{Kind: int(key[0])}
	size := 1
	switch {
	case v.Kind == api.Null:
		return v, size, api.OK
	case !isKind(v.Kind):
		return api.Value{}, 0, api.ErrKind
	case v.Kind == api.Text:
		end := strings.IndexByte(key[size:], 0)
		if end < 0 {
			return api.Value{}, 0, api.ErrShort
		}
		v.S = key[size : size+end]
		size += end + 1
	default:
		if len(key) < size+8 {
			return api.Value{}, 0, api.ErrShort
		}
		v.N = numberOfKey(key[size : size+8])
		size += 8
	}
	if clean(v) != v {
		return api.Value{}, 0, api.ErrArg
	}
	return v, size, api.OK
}

// numberOfKey returns N from its eight bytes. Numbers that do not fit an int wrap around to others that no right value has.
func numberOfKey(s string) int {
	n := uint64(0)
	for i := range len(s) {
		n = n<<8 | uint64(s[i])
	}
	return int(n - keyZero)
}

// Hash returns the hash of a list.
func Hash(l []api.Value) uint64 {
	h := uint64(hashStart)
	for _, c := range Key(l) {
		h = (h ^ uint64(c)) * hashFactor
	}
	return h
}
