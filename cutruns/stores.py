"""Pieces that are met often, each kept once."""

from cutruns.pieces import held_by, locks_of, mask_of, put_behind


class Store:
    """Pieces, told by COUNTS in the sequence in which they came."""

    def __init__(self):
        self.pieces = []
        self.numbers = {}
        # Of each piece the masks of the locks that it holds at its end, and of all its locks.
        self.holding = []
        self.touching = []
        # Of each two pieces that were put one behind the other what came of it.
        self.laid = {}

    def number_of(self, piece):
        """The number of the piece, which is kept if it wasn't."""
        number = self.numbers.get(piece)
        if number is None:
            number = len(self.pieces)
            self.numbers[piece] = number
            self.pieces.append(piece)
            self.holding.append(mask_of(held_by(piece)))
            self.touching.append(mask_of(locks_of(piece)))
        return number

    def lay(self, one, other):
        """The number of the piece with the other one put behind it, None if there is none."""
        if (one, other) not in self.laid:
            piece = put_behind(self.pieces[one], self.pieces[other])
            self.laid[one, other] = None if piece is None else self.number_of(piece)
        return self.laid[one, other]
