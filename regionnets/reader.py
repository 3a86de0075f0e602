"""Reading a list of calls number by number, and leaving it as it is."""


class Reader:
    def __init__(self, numbers):
        self.numbers = numbers
        self.at = 0

    def ended(self):
        return self.at >= len(self.numbers)

    def number(self):
        read = self.numbers[self.at]
        self.at += 1
        return read

    def row(self):
        size = self.number()
        read = self.numbers[self.at:self.at + size]
        self.at += size
        return read
