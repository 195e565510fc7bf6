"""Numbers and texts as they stand in a row of bytes."""

from mendedimage.refusals import demand

MODULUS = 18446744073709551616
MOST_DIGITS = 10
MOST_TEXT = 255


def number_at(row, at, size):
    value = 0
    for byte in reversed(row[at:at + size]):
        value = value * 256 + byte
    return value


# Beginning at -1 in the place of 0 takes off 128 to the power of how many digits there are.
def value_of(digits, beginning):
    value = beginning
    for digit in reversed(digits):
        value = value * 128 + digit
    return value


class Cursor:
    def __init__(self, row, at):
        self.row = row
        self.at = at

    def ended(self):
        return self.at >= len(self.row)

    def byte(self):
        demand(not self.ended())
        self.at += 1
        return self.row[self.at - 1]

    def digits(self):
        found = []
        more = True
        while more:
            demand(len(found) < MOST_DIGITS)
            byte = self.byte()
            found.append(byte % 128)
            more = byte >= 128
        return found

    def sevens(self):
        value = value_of(self.digits(), 0)
        demand(value < MODULUS)
        return value

    # Told modulo 2^64, so ten bytes hold none that's too much.
    def signed_sevens(self):
        digits = self.digits()
        beginning = -1 if digits[-1] >= 64 else 0
        return value_of(digits, beginning) % MODULUS

    def text(self):
        letters = []
        letter = self.byte()
        while letter != 0:
            demand(33 <= letter <= 126 and len(letters) < MOST_TEXT)
            letters.append(letter)
            letter = self.byte()
        return letters
