"""A list of whole numbers, read from its beginning to its end."""


class Reader:
    def __init__(self, source):
        self.source = source
        self.place = 0

    def is_done(self):
        return self.place >= len(self.source)

    # A slice is a copy: what is kept of it stays apart from the list handed in.
    def take_several(self, count):
        start = self.place
        self.place = start + count
        return self.source[start:self.place]

    def take_one(self):
        return self.take_several(1)[0]

    def take_row(self):
        return self.take_several(self.take_one())
