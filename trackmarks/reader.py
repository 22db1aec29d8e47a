"""The list of calls, read number by number."""


class CallReader:

    def __init__(self, calls):
        self.calls = calls
        self.place = 0

    def has_more(self):
        return self.place < len(self.calls)

    def read_numbers(self, amount):
        start = self.place
        self.place = start + amount
        return self.calls[start:start + amount]

    def read_number(self):
        return self.read_numbers(1)[0]

    def read_row(self):
        return self.read_numbers(self.read_number())
