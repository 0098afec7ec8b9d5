package store

// A record of a log is the number of bytes of its body, the body, and a sum.
const (
	lengthSize = 4
	sumSize    = 8
)

// addRecord adds a record with a number and a body to a log.
func addRecord(log []byte, number int, body []byte) []byte {
	start := len(log)
	log = append(addNumber(log, uint64(len(body)), lengthSize), body...)
	return addNumber(log, sumOf(number, log[start:]), sumSize)
}

// addNumber adds the bytes of a number, lowest first.
func addNumber(b []byte, n uint64, size int) []byte {
	for range size {
		b = append(b, byte(n))
		n >>= 8
	}
	return b
}

// numberOf returns the number of some bytes, lowest first.
func numberOf(b []byte) uint64 {
	n := uint64(0)
	for i, x := range b {
		n |= uint64(x) << (8 * i)
	}
	return n
}

// sumOf returns the sum of a record that has a number and begins with some bytes.
func sumOf(number int, b []byte) uint64 {
	sum := uint64(14695981039346656037)
	for _, part := range [][]byte{addNumber(nil, uint64(number), lengthSize), b} {
		for _, x := range part {
			sum = (sum ^ uint64(x)) * 1099511628211
		}
	}
	return sum
}

// record is the record at the beginning of a log.
type record struct {
	body  []byte
	whole bool // otherwise there is nothing else
	right bool // its sum is right
}

// readRecord returns the record with a number at the beginning of a log.
func readRecord(log []byte, number int) record {
	if len(log) < lengthSize {
		return record{}
	}
	length := int(numberOf(log[:lengthSize]))
	if length > len(log)-lengthSize-sumSize {
		return record{}
	}
	end := lengthSize + length
	sum := numberOf(log[end : end+sumSize])
	return record{body: log[lengthSize:end], whole: true, right: sum == sumOf(number, log[:end])}
}
