"""Takes the calls, one behind another, from the one list in which they stand."""

# For each call's number, how many whole numbers stand behind it ahead of its rows.
WHOLES = (1, 1, 1, 1, 0, 2, 0, 0, 2, 0, 0, 1, 1, 0, 0)
# Only vote has a row: the order.
CALL_WITH_ROW = 1


class Call:
    """A call's number, its whole numbers, and its row (empty where it has none)."""

    def __init__(self, number, wholes, row):
        self.number = number
        self.wholes = wholes
        self.row = row


class Reader:
    """Goes through the list by a place of its own, so that the list stays as it was."""

    def __init__(self, numbers):
        self.numbers = numbers
        self.place = 0

    def has_more(self):
        return self.place < len(self.numbers)

    def take(self, length):
        start = self.place
        self.place = start + length
        return self.numbers[start:self.place]

    def take_call(self):
        number = self.take(1)[0]
        wholes = self.take(WHOLES[number])
        row = []
        if number == CALL_WITH_ROW:
            length = self.take(1)[0]
            row = self.take(length)
        return Call(number, wholes, row)
