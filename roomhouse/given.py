"""The given functions more and less, played by a row of answers that was handed in."""

MORE = 1
LESS = 2


class Given:
    """Answers the asks of one call and keeps them in order."""

    def __init__(self, replies):
        self.replies = replies
        self.asks = []

    def more(self, many):
        turn = len(self.asks)
        self.asks.append((MORE, many))
        if turn < len(self.replies):
            return self.replies[turn]
        return 0

    def less(self, first, many):
        # Its reply isn't looked at, but it is used up: the ask has its turn among the others.
        self.asks.append((LESS, first, many))

    def numbers(self):
        """How many asks there were, then each of them."""
        told = [len(self.asks)]
        for ask in self.asks:
            told.extend(ask)
        return told
