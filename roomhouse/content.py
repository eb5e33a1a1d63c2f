"""The bytes of one block."""

PIECE = 4096


class Content:
    """Bytes from 0 on, all 0 at first.

    Pieces in which nothing was written aren't kept, so that a great block costs only what is put into it.
    """

    def __init__(self):
        self.pieces = {}

    def write(self, start, row):
        done = 0
        while done < len(row):
            number = (start + done) // PIECE
            inside = (start + done) % PIECE
            many = min(PIECE - inside, len(row) - done)
            piece = self.piece(number)
            self.pieces[number] = piece[:inside] + row[done:done + many] + piece[inside + many:]
            done += many

    def read(self, start, many):
        row = []
        while len(row) < many:
            number = (start + len(row)) // PIECE
            inside = (start + len(row)) % PIECE
            row.extend(self.piece(number)[inside:inside + many - len(row)])
        return row

    def cut(self, size):
        """All bytes from size on are 0."""
        number = size // PIECE
        inside = size % PIECE
        for other in list(self.pieces):
            if other > number:
                self.pieces.pop(other)
        if number in self.pieces:
            self.pieces[number] = self.pieces[number][:inside] + [0] * (PIECE - inside)

    def piece(self, number):
        if number in self.pieces:
            return self.pieces[number]
        return [0] * PIECE
