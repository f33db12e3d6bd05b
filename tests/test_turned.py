"""What holds of turned positions together: turn after turn, and alike as a way of being the same."""

import random
import unittest

from helper import (GROUNDS, alike, ask_many, hall_on, least, picture_line, picture_turned, random_picture, read,
                    said_least, said_line, turn, write)

SPARSE_TO_FULL = (0, 4, 10, 30, 70, 100)


# The turn that t and then u are together. A mirroring makes a quarter turn to the right one to the left.
def together(t, u):
    quarters = u % 4 - t % 4 if u >= 4 else u % 4 + t % 4
    return quarters % 4 + (4 if (t >= 4) != (u >= 4) else 0)


def undoing(t):
    return t if t >= 4 else (4 - t) % 4


def random_lines(source, ground):
    return [picture_line(random_picture(source, ground, of_hundred), source.randrange(2))
            for of_hundred in SPARSE_TO_FULL]


# The text that an answer tells behind so many other numbers.
def told_text(answer, ahead=1):
    assert answer[0] == 0, answer
    assert answer[ahead] == len(answer) - ahead - 1, answer
    return bytes(answer[ahead + 1:]).decode("ascii")


class TurnAfterTurn(unittest.TestCase):

    def setUp(self):
        self.source = random.Random(7)

    # What the tests take for two turns together is that of pictures, too.
    def test_together(self):
        picture = ["ab", "cd"]
        for t in range(8):
            for u in range(8):
                self.assertEqual(picture_turned(picture_turned(picture, t), u), picture_turned(picture, together(t, u)))
            self.assertEqual(together(t, undoing(t)), 0)

    def test_two_turns_are_one(self):
        for ground, fitting in GROUNDS:
            text = hall_on(ground)
            pairs = [(t, u) for t in fitting for u in fitting]
            for line in random_lines(self.source, ground):
                once = {t: told_text(told) for t, told in
                        zip(fitting, ask_many(text, [turn(line, t) for t in fitting]))}
                twice = ask_many(text, [turn(once[t], u) for t, u in pairs])
                self.assertEqual(twice, [said_line(once[together(t, u)]) for t, u in pairs])

    def test_undone(self):
        for ground, fitting in GROUNDS:
            text = hall_on(ground)
            lines = random_lines(self.source, ground)
            for t in fitting:
                turned = [told_text(told) for told in ask_many(text, [turn(line, t) for line in lines])]
                back = ask_many(text, [turn(line, undoing(t)) for line in turned])
                self.assertEqual(back, [said_line(line) for line in lines])

    def test_turn_0_changes_nothing(self):
        for ground, fitting in GROUNDS:
            lines = random_lines(self.source, ground)
            told = ask_many(hall_on(ground), [turn(line, 0) for line in lines])
            self.assertEqual(told, [said_line(line) for line in lines])

    # Read, and written once more from what was read.
    def test_stays_right(self):
        for ground, fitting in GROUNDS:
            text = hall_on(ground)
            lines = random_lines(self.source, ground)
            turned = [told_text(told) for told in ask_many(text, [turn(line, t) for line in lines for t in fitting])]
            turned += [told_text(told, 2) for told in ask_many(text, [least(line) for line in lines])]
            positions = ask_many(text, [read(line) for line in turned])
            calls = []
            for told in positions:
                self.assertEqual(told[0], 0)
                hunters = told[2:2 + told[1]]
                men = told[3 + told[1]:-2]
                self.assertEqual(len(men), told[2 + told[1]])
                calls.append(write(hunters, men, told[-2], told[-1]))
            self.assertEqual(ask_many(text, calls), [said_line(line) for line in turned])


# Some positions and what turns make of them, fitting ones or not, with this or that side's turn.
def some_lines(source, ground):
    lines = []
    for of_hundred in (0, 4, 8, 40):
        picture = random_picture(source, ground, of_hundred)
        for by in source.sample(range(8), 4):
            turned = picture_turned(picture, by)
            if len(turned) == len(ground):
                lines.append(picture_line(turned, source.choice((0, 0, 1))))
    return lines


def right_lines(text, lines):
    return [line for line, told in zip(lines, ask_many(text, [read(line) for line in lines])) if told[0] == 0]


class AlikeAsTheSame(unittest.TestCase):

    @classmethod
    def setUpClass(cls):
        source = random.Random(8)
        cls.halls = []
        for ground, fitting in GROUNDS:
            text = hall_on(ground)
            lines = right_lines(text, some_lines(source, ground))
            pairs = [(line, other) for line in lines for other in lines]
            told = ask_many(text, [alike(line, other) for line, other in pairs])
            assert all(answer in ([0], [1]) for answer in told)
            cls.halls.append((text, fitting, lines, {pair: answer[0] for pair, answer in zip(pairs, told)}))

    def test_enough_of_both(self):
        found = [answer for text, fitting, lines, are in self.halls
                 for (line, other), answer in are.items() if line != other]
        self.assertGreater(found.count(1), 100)
        self.assertGreater(found.count(0), 1000)

    def test_of_itself(self):
        for text, fitting, lines, are in self.halls:
            for line in lines:
                self.assertEqual(are[line, line], 1)

    def test_both_ways(self):
        for text, fitting, lines, are in self.halls:
            for line, other in are:
                self.assertEqual(are[line, other], are[other, line])

    def test_over_a_third(self):
        for text, fitting, lines, are in self.halls:
            for line, other in are:
                if are[line, other]:
                    for third in lines:
                        self.assertEqual(are[line, third], are[other, third])

    def test_just_if_their_least_are_the_same(self):
        for text, fitting, lines, are in self.halls:
            leasts = {line: told_text(told, 2) for line, told in
                      zip(lines, ask_many(text, [least(line) for line in lines]))}
            for line, other in are:
                self.assertEqual(are[line, other] == 1, leasts[line] == leasts[other], (line, other))

    def test_with_what_turns_make(self):
        for text, fitting, lines, are in self.halls:
            turned = {line: [told_text(told) for told in ask_many(text, [turn(line, t) for t in fitting])]
                      for line in set(lines)}
            for line, other in are:
                self.assertEqual(are[line, other] == 1, other in turned[line], (line, other))

    def test_the_least_is_one_of_the_turned_and_its_own_least(self):
        for text, fitting, lines, are in self.halls:
            told = ask_many(text, [least(line) for line in lines])
            leasts = [told_text(answer, 2) for answer in told]
            self.assertEqual(ask_many(text, [turn(line, answer[1]) for line, answer in zip(lines, told)]),
                             [said_line(line) for line in leasts])
            self.assertEqual(ask_many(text, [least(line) for line in leasts]),
                             [said_least(0, line) for line in leasts])
            self.assertEqual(ask_many(text, [alike(line, other) for line, other in zip(lines, leasts)]),
                             [[1]] * len(lines))


if __name__ == "__main__":
    unittest.main()
