"""The order of the code of a set of needs, and the ways through it."""

from leastimage.blocks import aligned, code_blocks

STARTS = 16


class Spot:
    """Where a point stands: in which block, behind how many points and cells.

    Points are counted from the first one of the code, cells from the first
    one of the block.
    """

    def __init__(self, block, rank, ahead):
        self.block = block
        self.rank = rank
        self.ahead = ahead


class Sequence:
    """The code of a set of needs, in order. It never changes."""

    def __init__(self, book, needs):
        self._held = {need: True for need in needs}
        self._blocks = code_blocks(book, needs)
        self._spots = spots_of(self._blocks)
        self._lengths_ahead = sums_ahead([block.length for block in self._blocks])
        self._gaps_ahead = sums_ahead([block.alignment - 1 for block in self._blocks])

    def in_order(self):
        """The list of all points."""
        return list(self._spots)

    def has_point(self, point):
        """Whether a stub or a place of a row is a point of the code."""
        return point in self._spots

    def ends(self, one, other):
        """Two points, the one that stands earlier ahead of the other one."""
        if self._spots[one].rank <= self._spots[other].rank:
            return one, other
        return other, one

    def stretch_from(self, lower, higher, start):
        """The stretch from a start between two points."""
        low = self._spots[lower]
        high = self._spots[higher]
        if low.block == high.block:
            return high.ahead - low.ahead
        at = start + self._blocks[low.block].length - low.ahead
        for block in self._blocks[low.block + 1 : high.block]:
            at = aligned(at, block.alignment) + block.length
        return aligned(at, self._blocks[high.block].alignment) + high.ahead - start

    def greatest(self, lower, higher):
        """The pair of the greatest stretch and the least start that has it."""
        stretches = [self.stretch_from(lower, higher, start) for start in range(STARTS)]
        most = max(stretches)
        return most, stretches.index(most)

    def far_start(self, lower, higher, reach):
        """A start from which the stretch is above the reach, None without one."""
        low = self._spots[lower]
        high = self._spots[higher]
        # Most pairs of points are so near or so far that alignments mean nothing.
        cells = self._lengths_ahead[high.block] - self._lengths_ahead[low.block]
        least = cells + high.ahead - low.ahead
        if least > reach:
            return 0
        gaps = self._gaps_ahead[high.block + 1] - self._gaps_ahead[low.block + 1]
        if least + gaps <= reach:
            return None
        most, start = self.greatest(lower, higher)
        return start if most > reach else None

    def needs_between(self, lower, higher):
        """The needs of the set that the stretch between two points rests on."""
        low = self._spots[lower]
        high = self._spots[higher]
        found = [block.need for block in self._blocks[low.block : high.block + 1]]
        for point in list(self._spots)[low.rank : high.rank]:
            if ("long", *point) in self._held:
                found.append(("long", *point))
        return found


def spots_of(blocks):
    """The spots of all points of some blocks, in order."""
    spots = {}
    for at, block in enumerate(blocks):
        ahead = 0
        for point, size in zip(block.spots, block.sizes):
            spots[point] = Spot(at, len(spots), ahead)
            ahead = ahead + size
    return spots


def sums_ahead(numbers):
    """The sums of the numbers ahead of each one, and that of all behind them."""
    sums = [0]
    for number in numbers:
        sums.append(sums[-1] + number)
    return sums
