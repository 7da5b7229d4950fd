package impl

const MaxBody = 250

const (
	maxTag = 255

	// Lengths from shortEnd on do not fit the one byte form: longMark stands ahead of them.
	shortEnd = 128
	longMark = 129

	leastInt    = -2147483648
	greatestInt = 2147483647
	maxIntBytes = 4
)

// PutTlv answers a copy of b even where it refuses: no answer shares memory with an argument.
func PutTlv(b []byte, tag int, body []byte) []byte {
	if tag < 0 || tag > maxTag || len(body) > MaxBody {
		return putPieces(b)
	}
	return putPieces(b, []byte{byte(tag)}, lengthBytes(len(body)), body)
}

func GetTlv(b []byte, at int) (int, []byte, int, bool) {
	if at < 0 || at >= len(b) {
		return 0, nil, 0, false
	}
	size, from, ok := lengthAt(b, at+1)
	if !ok || size > len(b)-from {
		return 0, nil, 0, false
	}
	behind := from + size
	return int(b[at]), putPieces(b[from:behind]), behind, true
}

// PutInt leans on >> keeping the sign: what is left when all higher bytes say
// nothing but the sign fits one byte with a sign of its own.
func PutInt(n int) []byte {
	n = min(max(n, leastInt), greatestInt)
	out := []byte{byte(n)}
	for n < -128 || n > 127 {
		n >>= 8
		out = putPieces([]byte{byte(n)}, out)
	}
	return out
}

func GetInt(b []byte) (int, bool) {
	if len(b) == 0 || len(b) > maxIntBytes {
		return 0, false
	}
	n := signed(b[0])
	if len(b) > 1 && n == signed(b[1])>>7 {
		// The first byte only repeats the sign that the second one has, too.
		return 0, false
	}
	for _, x := range b[1:] {
		n = n<<8 | int(x)
	}
	return n, true
}

// putPieces puts all pieces behind b, in memory of its own: append to b itself
// would write into the spare room behind it.
func putPieces(b []byte, pieces ...[]byte) []byte {
	size := len(b)
	for _, piece := range pieces {
		size += len(piece)
	}
	all := append(make([]byte, 0, size), b...)
	for _, piece := range pieces {
		all = append(all, piece...)
	}
	return all
}

func lengthBytes(size int) []byte {
	if size < shortEnd {
		return []byte{byte(size)}
	}
	return []byte{longMark, byte(size)}
}

// lengthAt reads the length at a place from 0 on: the length, the place behind it,
// and whether it is there and said in the one form that it may have.
func lengthAt(b []byte, at int) (int, int, bool) {
	if at >= len(b) {
		return 0, 0, false
	}
	if b[at] < shortEnd {
		return int(b[at]), at + 1, true
	}
	if b[at] != longMark || at+1 >= len(b) {
		return 0, 0, false
	}
	size := int(b[at+1])
	return size, at + 2, size >= shortEnd && size <= MaxBody
}

func signed(x byte) int {
	return int(int8(x))
}
