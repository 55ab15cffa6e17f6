package palette

import (
	"slices"

	"voxel/api"
)

// mask tells of each cell whether it differs in two bricks.
type mask [api.BrickCells]bool

const maskSize = api.BrickCells / byteBits

// Delta returns the difference of two bricks.
func Delta(old, new []int) (string, api.Errno) {
	if !brick(old) || !brick(new) {
		return "", api.ErrArg
	}
	var differs mask
	var cells []int
	for i, cell := range new {
		if cell != old[i] {
			differs[i] = true
			cells = append(cells, cell)
		}
	}
	text, e := Pack(cells)
	return putMask(differs) + text, e
}

// Patch returns the brick that a difference makes of another one.
func Patch(old []int, delta string) ([]int, api.Errno) {
	switch {
	case !brick(old):
		return nil, api.ErrArg
	case len(delta) < maskSize:
		return nil, api.ErrTruncated
	}
	differs, rest := getMask(delta[:maskSize]), delta[maskSize:]
	cells, n, e := Unpack(rest)
	if e != api.OK {
		return nil, e
	}
	changed, ok := replace(old, differs, cells)
	if !ok || n < len(rest) {
		return nil, api.ErrEncoding
	}
	return changed, api.OK
}

// replace returns the brick old with other cells where the mask says that they differ. It
// returns false if they do not, or if their number is not that of the mask.
func replace(old []int, differs mask, cells []int) ([]int, bool) {
	changed := slices.Clone(old)
	for i, differ := range differs {
		if !differ {
			continue
		}
		if len(cells) == 0 || cells[0] == old[i] {
			return nil, false
		}
		changed[i], cells = cells[0], cells[1:]
	}
	return changed, len(cells) == 0
}

// putMask returns the bytes of a mask.
func putMask(m mask) string {
	return string(spread(m[:], 1, func(differ bool) int {
		if differ {
			return 1
		}
		return 0
	}))
}

// getMask returns the mask of its bytes.
func getMask(text string) mask {
	var m mask
	list, _ := gather(text, len(m), 1, func(number int) (bool, bool) { return number == 1, true })
	copy(m[:], list)
	return m
}

// brick reports whether cells are those of a brick.
func brick(cells []int) bool { return len(cells) == api.BrickCells && materials(cells) }
