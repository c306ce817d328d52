"""Reading a text from the front: what the texts of fields, catalogues and builds share."""

DIGITS = "0123456789"
LETTERS = "abcdefghijklmnopqrstuvwxyz"


def codes(signs):
    """The bytes of these signs."""
    return [ord(sign) for sign in signs]


class Reader:
    """Goes through a text byte by byte, and is stuck for good at the first byte that doesn't fit.

    Whatever it has taken of a field's text can be gone on with to a whole one, so
    the place where it is stuck is the fault. What it gives back once it is stuck
    means nothing.
    """

    def __init__(self, text):
        self.text = text
        self.at = 0
        self.stuck = False

    def has_more(self):
        """Whether there is a byte that may still be taken."""
        return not self.stuck and self.at < len(self.text)

    def sees(self, wanted):
        """Whether the next byte is one of those wanted."""
        return self.has_more() and self.text[self.at] in wanted

    def take(self, wanted):
        """Takes the next byte, which must be one of those wanted."""
        if not self.sees(wanted):
            self.stuck = True
            return 0
        byte = self.text[self.at]
        self.at = self.at + 1
        return byte

    def take_signs(self, signs):
        """Takes just these signs, one behind another."""
        for code in codes(signs):
            self.take([code])

    def take_number(self, greatest):
        """Takes a number from 1 to the greatest, in tens, without needless noughts."""
        digits = codes(DIGITS)
        value = 0
        # A figure that would lead out of the range is left where it is: what must
        # come behind the number is no figure, so the reader is stuck right there.
        while self.sees(digits):
            longer = 10 * value + self.text[self.at] - digits[0]
            if longer == 0 or longer > greatest:
                break
            value = longer
            self.at = self.at + 1
        if value == 0:
            self.stuck = True
        return value

    def take_number_or_nought(self, greatest):
        """Takes a number from 0 to the greatest, in tens, without needless noughts."""
        nought = codes(DIGITS[0])
        if self.sees(nought):
            self.take(nought)
            return 0
        return self.take_number(greatest)

    def take_name(self, longest):
        """Takes a name: letters and figures, at most so many, the first a letter."""
        name = [self.take(codes(LETTERS))]
        wanted = codes(LETTERS + DIGITS)
        while len(name) < longest and self.sees(wanted):
            name.append(self.take(wanted))
        return name

    def take_rows(self, width, rows, signs):
        """Takes so many rows of places, each with its end, and gives back the places in one row."""
        wanted = codes(signs)
        places = []
        for row in range(rows):
            for column in range(width):
                places.append(self.take(wanted))
            self.take_signs("\n")
        return places

    def take_end(self):
        """Takes nothing: the text must be at its end."""
        if self.has_more():
            self.stuck = True
