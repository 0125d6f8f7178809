"""Rows of bytes read item by item."""

from firstwrong.errors import BadBytes


class RowReader:
    """Reads items off a row of bytes; one that is wrong is told by its first byte's place."""

    def __init__(self, row):
        self.row = row
        self.place = 0

    def read_number(self, many, most, least=0):
        """A number of so many bytes, the lowest first."""
        at = self.place
        if at + many > len(self.row):
            raise BadBytes(at)
        found = 0
        for spot in range(many):
            found = found | (self.row[at + spot] << (8 * spot))
        if not least <= found <= most:
            raise BadBytes(at)
        self.place = at + many
        return found

    def read_int(self):
        """An int of four bytes, a negative one with 2 ** 32 more."""
        found = self.read_number(4, 2 ** 32 - 1)
        return found - 2 ** 32 if found >= 2 ** 31 else found

    def end(self):
        """Refuses bytes behind the last item."""
        if self.place < len(self.row):
            raise BadBytes(self.place)
