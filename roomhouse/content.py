"""The bytes of one block."""

PIECE = 4096


class Content:
    """Bytes from 0 on, all 0 at first.

    Pieces in which nothing was written aren't kept, so that a great block costs only what is put into it.
    A piece is a tuple, so that two contents may keep the same one.
    """

    def __init__(self):
        self.pieces = {}

    def write(self, start, row):
        """A tuple of bytes stands from start on."""
        done = 0
        while done < len(row):
            number = (start + done) // PIECE
            inside = (start + done) % PIECE
            many = min(PIECE - inside, len(row) - done)
            piece = self.piece(number)
            self.pieces[number] = piece[:inside] + row[done:done + many] + piece[inside + many:]
            done += many

    def read(self, start, many):
        row = []
        while len(row) < many:
            number = (start + len(row)) // PIECE
            inside = (start + len(row)) % PIECE
            row.extend(self.piece(number)[inside:inside + many - len(row)])
        return row

    def parts(self, start, many):
        """So many bytes from start on, but for pieces that aren't kept: tuples, each with how far from start it is."""
        found = []
        for number, piece in self.pieces.items():
            first = number * PIECE
            part = piece[max(start - first, 0):max(start + many - first, 0)]
            if part:
                found.append((max(first - start, 0), part))
        return found

    def overwrite(self, start, many, parts):
        """So many bytes from start on are as parts tells them."""
        self.blank(start, start + many)
        for ahead, part in parts:
            self.write(start + ahead, part)

    def blank(self, start, end):
        """All bytes from start up to end are 0."""
        for number in list(self.pieces):
            piece = self.pieces[number]
            first = number * PIECE
            ahead = piece[:max(start - first, 0)]
            behind = piece[max(end - first, 0):]
            gone = PIECE - len(ahead) - len(behind)
            if gone == PIECE:
                self.pieces.pop(number)
            elif gone > 0:
                self.pieces[number] = ahead + (0,) * gone + behind

    def piece(self, number):
        if number in self.pieces:
            return self.pieces[number]
        return (0,) * PIECE
