"""A list of calls, taken apart."""


class CallReader:
    """Takes numbers and rows from the front of a list, which stays as it is."""

    def __init__(self, calls):
        self.calls = calls
        self.place = 0

    def has_more(self):
        return self.place < len(self.calls)

    def take_number(self):
        number = self.calls[self.place]
        self.place += 1
        return number

    def take_row(self):
        length = self.take_number()
        row = self.calls[self.place:self.place + length]
        self.place += length
        return row
