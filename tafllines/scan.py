"""A text gone through byte by byte, only as far as it goes on as it should."""

# No byte is like it, so that a text's end is never taken for a sign.
END = -1


# Raised while the scan's place is still the first one where the text doesn't go on rightly.
class Stuck(Exception):
    pass


def digit_value(sign):
    if sign < ord("0") or sign > ord("9"):
        return -1
    return sign - ord("0")


# A number is refused at the first digit that leaves its range, and so its first digits are judged before the rest.
def begins_number(value, least, most):
    low = value
    high = value
    while low <= most:
        if high >= least:
            return True
        low = low * 10
        high = high * 10 + 9
    return False


class Scan:

    def __init__(self, text):
        self.text = text
        self.place = 0

    def ahead(self):
        if self.place < len(self.text):
            return self.text[self.place]
        return END

    def go_on(self):
        self.place = self.place + 1

    def take(self, word):
        for letter in word:
            if self.ahead() != ord(letter):
                raise Stuck()
            self.go_on()

    # Answers the word's index. None of the words may begin another one.
    def take_one_of(self, words):
        left = list(range(len(words)))
        depth = 0
        while True:
            for index in left:
                if len(words[index]) == depth:
                    return index
            sign = self.ahead()
            left = [index for index in left if ord(words[index][depth]) == sign]
            if len(left) == 0:
                raise Stuck()
            self.go_on()
            depth = depth + 1

    def take_number(self, least, most):
        value = 0
        while digit_value(self.ahead()) >= 0:
            longer = value * 10 + digit_value(self.ahead())
            # 0 here is a 0 in front, since no digit was taken before it.
            if longer == 0 or not begins_number(longer, least, most):
                break
            value = longer
            self.go_on()
        if value < least or value > most:
            raise Stuck()
        return value

    def take_end(self):
        if self.ahead() != END:
            raise Stuck()
