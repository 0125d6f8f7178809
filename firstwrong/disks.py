"""A disk: what was written is late first, then made sure; the machine may fall."""

from firstwrong.errors import BadBytes, BadDisk, BadNumber, OldPen
from firstwrong.kinds import is_byte_row, is_number, is_number_in


def row_of(thing):
    """A row of bytes as a tuple."""
    if not is_byte_row(thing):
        raise BadBytes(None)
    return tuple(thing)


class Disk:
    """Bytes that are sure, behind them those that are late, and the newest pen's life."""

    def __init__(self, sure, late):
        self.sure = row_of(sure)
        self.late = row_of(late)
        self.life = 0

    def take_pen(self):
        """A new pen; all others are old."""
        self.life += 1
        return self.life

    def need_pen(self, life):
        """Refuses a pen that is not the newest one."""
        if not is_number(life) or life != self.life:
            raise OldPen("another pen was taken, or the machine fell")

    def write(self, life, thing):
        """More bytes, late."""
        self.need_pen(life)
        self.late = self.late + row_of(thing)

    def make_sure(self, life):
        """All that is late is sure."""
        self.need_pen(life)
        self.sure = self.sure + self.late
        self.late = ()

    def cut(self, life, many):
        """Only the first so many bytes are left."""
        self.need_pen(life)
        if not is_number_in(many, 0, len(self.sure) + len(self.late)):
            raise BadNumber("many")
        left = max(0, many - len(self.sure))
        self.sure = self.sure[:many]
        self.late = self.late[:left]

    def fall(self, kept):
        """The first so many late bytes are sure, the others lost; all pens are old."""
        if not is_number_in(kept, 0, len(self.late)):
            raise BadNumber("kept")
        self.sure = self.sure + self.late[:kept]
        self.late = ()
        self.life += 1

    def found(self):
        """All bytes, sure and late."""
        return self.sure + self.late

    def twin(self):
        """A disk that is the same."""
        other = Disk(self.sure, self.late)
        other.life = self.life
        return other


def need_disk(disk):
    """Refuses what is no Disk."""
    if not isinstance(disk, Disk):
        raise BadDisk("a disk is wanted")
