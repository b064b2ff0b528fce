"""Reads one glyph's data from the front to the back, never past its end."""

from shapefile.reading import signed16
from shapefile.reading import unsigned16


class NotWellTold(ValueError):
    """A glyph isn't told as it has to be."""


class Reader:
    """The place in the data where the next number stands."""

    def __init__(self, data, at):
        self.data = data
        self.at = at

    def pass_over(self, size):
        """Goes on by so many bytes, and answers where they began."""
        began = self.at
        if began + size > len(self.data):
            raise NotWellTold("the data ends too soon")
        self.at = began + size
        return began

    def next_unsigned8(self):
        return self.data[self.pass_over(1)]

    def next_signed8(self):
        number = self.next_unsigned8()
        return number - 256 if number >= 128 else number

    def next_unsigned16(self):
        return unsigned16(self.data, self.pass_over(2))

    def next_signed16(self):
        return signed16(self.data, self.pass_over(2))
