"""Patterns put together by chance, against a working that goes stitch by stitch and spares itself nothing."""

import random
import re
import unittest

from helper import MOST, NO_LINE, TOO_FEW, TOO_MANY, TOO_MUCH, chart, numbers

TAKES = {"k": 1, "p": 1, "yo": 0, "m": 0, "kk": 2, "sk": 2, "pp": 2, "sl": 1, "skk": 3, "kf": 1}
GIVES = {"k": "k", "p": "p", "yo": "o", "m": "k", "kk": "k", "sk": "k", "pp": "p", "sl": "v", "skk": "k", "kf": "kk"}


class Wrong(Exception):
    pass


class Things:
    """Reads the things of a row from its tokens as nested tuples; what it can't read is no line."""

    def __init__(self, tokens):
        self.tokens = tokens + ["end"]

    def number(self, allowed):
        token = self.tokens.pop(0)
        if not re.fullmatch("[0-9]{1,4}", token) or int(token) not in allowed:
            raise Wrong(NO_LINE)
        return int(token)

    def several(self, deep):
        if deep > 8:
            raise Wrong(NO_LINE)
        things = [self.one(deep)]
        while self.tokens[0] == ",":
            self.tokens.pop(0)
            things.append(self.one(deep))
        return things

    def closed(self, deep):
        things = self.several(deep + 1)
        if self.tokens.pop(0) != ")":
            raise Wrong(NO_LINE)
        return things

    def one(self, deep):
        token = self.tokens.pop(0)
        if token == "(":
            things = self.closed(deep)
            return "times", things, self.number(range(1, 1000))
        if token == "*" and self.tokens[0] == "(":
            self.tokens.pop(0)
            return "star", self.closed(deep), 0
        if token == "to":
            rest = self.number(range(10000))
            name = self.tokens.pop(0)
            if TAKES.get(name, 0) == 0:
                raise Wrong(NO_LINE)
            return "to", name, rest
        if token in ("cf", "cb"):
            return "cable", token, self.number(range(2, 13, 2))
        if token not in TAKES:
            raise Wrong(NO_LINE)
        return "work", token, self.number(range(1, 1000)) if self.tokens[0].isdigit() else 1


class Working:
    def __init__(self, left):
        self.left = left
        self.given = ""
        self.done = []

    def stitch(self, name, takes, gives):
        if takes > self.left:
            raise Wrong(TOO_FEW)
        self.left -= takes
        if len(self.given) + len(gives) > 4096:
            raise Wrong(TOO_MUCH)
        self.given += gives
        self.done.append(name)

    def go(self, things):
        for kind, what, number in things:
            if kind == "work":
                for time in range(number):
                    self.stitch(what, TAKES[what], GIVES[what])
            elif kind == "cable":
                self.stitch("c", number, what[1] * number)
            elif kind == "times":
                for time in range(number):
                    self.go(what)
            elif kind == "star":
                while self.left > 0:
                    before = self.left
                    self.go(what)
                    if self.left == before:
                        raise Wrong(TOO_MUCH)
            else:
                while self.left > number:
                    self.stitch(what, TAKES[what], GIVES[what])
                if self.left < number:
                    raise Wrong(TOO_FEW)


class Plainly:
    def __init__(self):
        self.stitches = None
        self.things = []
        self.charted = []
        self.done = []
        self.off = False

    def row(self, things):
        working = Working(self.stitches)
        working.go(things)
        if working.left > 0:
            raise Wrong(TOO_MANY)
        if working.given == "" or len(self.things) == 1024:
            raise Wrong(TOO_MUCH)
        self.things.append(things)
        self.done += working.done
        self.stitches = len(working.given)
        if len(self.things) % 2 == 1:
            self.charted.insert(0, working.given[::-1])
        else:
            self.charted.insert(0, working.given.translate(str.maketrans("kp", "pk")))

    def line(self, text):
        if text.strip(" ") == "":
            return
        tokens = re.findall("[a-z]+|[0-9]+|[^ ]", text)
        word = tokens.pop(0)
        joined = " ".join(tokens)
        if self.off or (self.stitches is None) != (word == "cast"):
            raise Wrong(NO_LINE)
        if word == "cast" and re.fullmatch("[0-9]{1,4}", joined) and 1 <= int(joined) <= 999:
            self.stitches = int(joined)
        elif word == "row":
            reader = Things(tokens)
            things = reader.several(0)
            if reader.tokens != ["end"]:
                raise Wrong(NO_LINE)
            self.row(things)
        elif word == "again" and re.fullmatch("[0-9]{1,4} - [0-9]{1,4}", joined):
            first, last = int(tokens[0]), int(tokens[2])
            if not 1 <= first <= last <= len(self.things):
                raise Wrong(NO_LINE)
            for things in self.things[first - 1:last]:
                self.row(things)
        elif word == "off" and not tokens and self.things:
            self.off = True
        else:
            raise Wrong(NO_LINE)


def plainly(most, text):
    piece = Plainly()
    lines = bytes(text).decode("latin-1").split("\n")
    if lines[-1] == "":
        lines.pop()
    for number, line in enumerate(lines, 1):
        try:
            piece.line(line)
        except Wrong as wrong:
            return [wrong.args[0] - number]
    if not piece.off:
        return [NO_LINE - len(lines) - 1]
    often = [f"{name} {piece.done.count(name)}" for name in list(TAKES) + ["c"] if name in piece.done]
    told = "".join(line + "\n" for line in piece.charted + often)
    return [len(told)] + numbers(told) if len(told) <= most else [-1]


class Chance:
    """Makes patterns of which a good part can be worked to their end."""

    def __init__(self, seed):
        self.random = random.Random(seed)

    def work(self):
        name = self.random.choice(list(TAKES))
        often = self.random.choice(("", "", "", "1", "2", " 3", "5"))
        return name + often

    def thing(self, deep):
        kind = self.random.randrange(12)
        if kind < 5 or deep == 0:
            return self.work()
        if kind < 8:
            return f"({self.several(deep - 1)}){self.random.choice((1, 1, 2, 2, 3, 7))}"
        if kind < 9:
            return f"*({self.several(deep - 1)})"
        if kind < 11:
            return f"to {self.random.choice((0, 0, 1, 2, 3, 5, 8))} {self.random.choice(('k', 'p', 'sl', 'kk', 'skk', 'kf'))}"
        return self.random.choice(("cf 2", "cb 4", "cf6"))

    def several(self, deep):
        return ",".join(self.thing(deep) for time in range(self.random.choice((1, 1, 2, 2, 3, 4))))

    def row(self):
        things = self.several(self.random.choice((0, 1, 2, 3)))
        end = self.random.choice(("", ",*(k)", ",*(p)", ",to 0 k", ",to 0 sl,yo", ",*(k),(*(p),yo)2"))
        return f"row {things}{end}"

    def line(self, rows):
        kind = self.random.randrange(10)
        if kind == 0:
            return ""
        if kind < 3 and rows:
            return f"again {self.random.randrange(1, rows + 1)}-{self.random.randrange(1, rows + 2)}"
        return self.row()

    def pattern(self):
        lines = [f"cast {self.random.choice((1, 2, 3, 4, 6, 8, 12, 30))}"]
        for rows in range(self.random.randrange(1, 6)):
            lines.append(self.line(rows))
        lines.append("off")
        text = "\n".join(lines)
        if self.random.randrange(4) == 0:
            at = self.random.randrange(len(text))
            text = text[:at] + self.random.choice(("", " ", ",", "(", ")", "k", "1", "\n", "*", "x")) + text[at + 1:]
        return text


class StepByStep(unittest.TestCase):
    def test_patterns_by_chance(self):
        chance = Chance(20)
        seen = {}
        for time in range(6000):
            text = numbers(chance.pattern())
            answer = plainly(MOST, text)
            self.assertEqual(chart(MOST, text), answer, bytes(text))
            kind = min(0, answer[0]) // 1000000
            seen[kind] = seen.get(kind, 0) + 1
        # Else the patterns above would say little.
        self.assertGreater(min(seen.get(kind, 0) for kind in (0, -2, -3, -4, -5)), 30, seen)

    def test_rows_near_4096_by_chance(self):
        chance = Chance(21)
        head = "cast 500\nrow *(kf)\nrow *(kf)\nrow *(kf)\n"
        for time in range(150):
            text = numbers(head + "\n".join(chance.row() for row in range(3)) + "\noff")
            self.assertEqual(chart(MOST, text), plainly(MOST, text), bytes(text))
        for time in range(300):
            full = chance.random.choice((4060, 4080, 4090, 4094, 4095, 4096))
            things = f"(yo)999,yo999,(m,yo,m)333,m999,(yo){full - 3996}"
            text = numbers(f"cast 12\nrow {things},{chance.several(3)}\nrow *(k)\noff")
            self.assertEqual(chart(MOST, text), plainly(MOST, text), bytes(text))


if __name__ == "__main__":
    unittest.main()
