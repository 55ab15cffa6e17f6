package palette

const byteBits = 8

// room returns the number of bytes that n numbers of a width take.
func room(n, width int) int { return (n*width + byteBits - 1) / byteBits }

// spread writes the numbers of items, with width bits each, one after the other from the least
// significant bit of the first byte on. No number lies in two bytes if the width divides 8.
func spread[T any](items []T, width int, number func(item T) int) []byte {
	text := make([]byte, room(len(items), width))
	for i, item := range items {
		n := number(item)
		for b := range width {
			at := i*width + b
			text[at/byteBits] |= byte(n>>b&1) << (at % byteBits)
		}
	}
	return text
}

// gather reads what spread has written of n items, as far as the text goes, which is not longer.
// It returns false if item refuses a number, or if a bit after the last number is 1.
func gather[T any](text string, n, width int, item func(number int) (T, bool)) ([]T, bool) {
	items := make([]T, 0, n)
	for i := 0; i < n && (i+1)*width <= len(text)*byteBits; i++ {
		number := 0
		for b := range width {
			number |= bit(text, i*width+b) << b
		}
		v, ok := item(number)
		if !ok {
			return nil, false
		}
		items = append(items, v)
	}
	for at := n * width; at < len(text)*byteBits; at++ {
		if bit(text, at) == 1 {
			return nil, false
		}
	}
	return items, true
}

// bit returns a bit of a text.
func bit(text string, at int) int { return int(text[at/byteBits]>>(at%byteBits)) & 1 }
