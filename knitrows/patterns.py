"""Knitting by patterns: read line by line, worked row by row, told as the piece is seen from the front."""

LETTERS = "abcdefghijklmnopqrstuvwxyz"
DIGITS = "0123456789"
OTHER_SIGNS = "()*,- \n"
# Every byte that no pattern holds reads as this sign, which no line allows.
FOREIGN = "?"

MOST_TOLD = 8388608
MOST_CAST = 999
MOST_TIMES = 999
MOST_CABLE = 12
MOST_DIGITS = 4
MOST_NUMBER = 9999
MOST_DEEP = 8
MOST_STITCHES = 4096
MOST_ROWS = 1024

# What each takes, and how what it gives looks from the side that's worked. The order is the one they're told in.
WORKS = {
    "k": (1, "k"), "p": (1, "p"), "yo": (0, "o"), "m": (0, "k"), "kk": (2, "k"),
    "sk": (2, "k"), "pp": (2, "p"), "sl": (1, "v"), "skk": (3, "k"), "kf": (1, "kk"),
}
CABLES = {"cf": "f", "cb": "b"}
CABLE_NAME = "c"


class NoLine(Exception):
    pass


class TooFew(Exception):
    pass


class TooMany(Exception):
    pass


class TooMuch(Exception):
    pass


# A row: the stitches left to take, how many it has given, and the works done for that.
class Row:
    def __init__(self, source, stitches):
        self.source = source
        self.left = stitches
        self.given = 0
        self.done = []
        self.looks = ""
        self.often = {}

    def do(self, work):
        fitting = work.times
        if work.takes > 0:
            fitting = min(work.times, self.left // work.takes)
        # One by one, each would take before it gives: so the bound that's met sooner is told, and of both too few.
        if (MOST_STITCHES - self.given) // len(work.gives) < fitting:
            raise TooMuch()
        if fitting < work.times:
            raise TooFew()
        self.left -= work.takes * work.times
        self.given += len(work.gives) * work.times
        self.done.append(work)

    # Does what was done since then again, as often as stitches and room allow, but so many times at most.
    def repeat_since(self, start, most):
        works = self.done[start:]
        taken = sum([work.takes * work.times for work in works])
        gave = sum([len(work.gives) * work.times for work in works])
        more = most
        if taken > 0:
            more = min(more, self.left // taken)
        if gave > 0:
            more = min(more, (MOST_STITCHES - self.given) // gave)
        self.done.extend(works * more)
        self.left -= taken * more
        self.given += gave * more
        return more

    def finish(self):
        self.looks = "".join([work.gives * work.times for work in self.done])
        for work in self.done:
            self.often[work.name] = self.often.get(work.name, 0) + work.times


# The four kinds of things. Each says at how many stitches left it does nothing (idle_at), and whether it
# takes and gives the same whatever is left (steady): so brackets needn't go through each of their passes.
class Work:
    def __init__(self, name, takes, gives, times):
        self.name = name
        self.takes = takes
        self.gives = gives
        self.times = times
        self.idle_at = None
        self.steady = True

    def work_on(self, row):
        row.do(self)


class Until:
    def __init__(self, rest, name, takes, gives):
        self.rest = rest
        self.name = name
        self.takes = takes
        self.gives = gives
        self.idle_at = rest
        self.steady = False

    def work_on(self, row):
        if row.left < self.rest:
            raise TooFew()
        times = (row.left - self.rest + self.takes - 1) // self.takes
        row.do(Work(self.name, self.takes, self.gives, times))
        # A work that takes several may have gone past the number.
        if row.left < self.rest:
            raise TooFew()


class Bracket:
    def __init__(self, things, times):
        self.things = things
        self.times = times
        first = things[0].idle_at
        self.idle_at = first if all([thing.idle_at == first for thing in things]) else None
        self.steady = all([thing.steady for thing in things])

    def work_on(self, row):
        ahead = self.times
        while ahead > 0:
            start = len(row.done)
            before = row.left
            work_things(row, self.things)
            ahead -= 1
            # A pass that finds as many stitches as the one before it found goes as that one went.
            if ahead > 0 and (self.steady or row.left == before):
                ahead -= row.repeat_since(start, ahead)


class Star:
    def __init__(self, things):
        self.things = things
        self.idle_at = 0
        self.steady = False
        self.steady_pass = all([thing.steady for thing in things])

    def work_on(self, row):
        while row.left > 0:
            start = len(row.done)
            before = row.left
            work_things(row, self.things)
            if row.left == before:
                raise TooMuch()
            if self.steady_pass:
                row.repeat_since(start, row.left)


def work_things(row, things):
    for thing in things:
        if thing.idle_at != row.left:
            thing.work_on(row)


# Behind the last token stands an empty one: whoever takes that is done with the line, or refuses it.
class Reader:
    def __init__(self, tokens):
        self.tokens = tokens + [""]
        self.place = 0

    def peek(self):
        return self.tokens[self.place]

    def take(self):
        token = self.peek()
        self.place += 1
        return token

    def expect(self, token):
        if self.take() != token:
            raise NoLine()

    def take_number(self, least, most):
        token = self.take()
        if not token.isdigit() or len(token) > MOST_DIGITS or not least <= int(token) <= most:
            raise NoLine()
        return int(token)


def lines_of(text):
    known = dict([(ord(sign), sign) for sign in LETTERS + DIGITS + OTHER_SIGNS])
    lines = "".join([known.get(byte, FOREIGN) for byte in text]).split("\n")
    # The newline of the last line ends it; no further line begins there.
    if lines[-1] == "":
        lines.pop()
    return lines


def end_of_run(line, start, signs):
    end = start
    while end < len(line) and line[end] in signs:
        end += 1
    return end


def tokens_of(line):
    tokens = []
    start = 0
    while start < len(line):
        end = max(start + 1, end_of_run(line, start, LETTERS), end_of_run(line, start, DIGITS))
        if line[start] != " ":
            tokens.append(line[start:end])
        start = end
    return tokens


def read_things(reader, deep):
    things = [read_thing(reader, deep)]
    while reader.peek() == ",":
        reader.take()
        things.append(read_thing(reader, deep))
    return things


def read_thing(reader, deep):
    word = reader.take()
    if word == "(":
        things = read_inside(reader, deep)
        return Bracket(things, reader.take_number(1, MOST_TIMES))
    if word == "*":
        reader.expect("(")
        return Star(read_inside(reader, deep))
    if word == "to":
        return read_until(reader)
    if word in CABLES:
        return read_cable(reader, word)
    return read_work(reader, word)


def read_inside(reader, deep):
    if deep == MOST_DEEP:
        raise NoLine()
    things = read_things(reader, deep + 1)
    reader.expect(")")
    return things


def read_until(reader):
    rest = reader.take_number(0, MOST_NUMBER)
    name = reader.take()
    if name not in WORKS or WORKS[name][0] == 0:
        raise NoLine()
    return Until(rest, name, WORKS[name][0], WORKS[name][1])


def read_cable(reader, word):
    size = reader.take_number(2, MOST_CABLE)
    if size % 2 == 1:
        raise NoLine()
    return Work(CABLE_NAME, size, CABLES[word] * size, 1)


def read_work(reader, word):
    if word not in WORKS:
        raise NoLine()
    times = 1
    if reader.peek().isdigit():
        times = reader.take_number(1, MOST_TIMES)
    return Work(word, WORKS[word][0], WORKS[word][1], times)


# What has been read and worked so far. A row is known by its source, the number of the line that first told it.
class Piece:
    def __init__(self):
        self.line = 0
        self.stitches = 0
        self.is_off = False
        self.things_of = {}
        self.rows = []
        # The same things on as many stitches come out the same, so they needn't be worked anew.
        self.worked = {}


def work_row(piece, source):
    key = (source, piece.stitches)
    if key not in piece.worked:
        row = Row(source, piece.stitches)
        work_things(row, piece.things_of[source])
        # No need to ask whether it has none: every work gives some, so such a row has left all that it found.
        if row.left > 0:
            raise TooMany()
        row.finish()
        piece.worked[key] = row
    if len(piece.rows) == MOST_ROWS:
        raise TooMuch()
    piece.rows.append(piece.worked[key])
    piece.stitches = piece.worked[key].given


def read_cast(piece, reader):
    piece.stitches = reader.take_number(1, MOST_CAST)
    reader.expect("")


def read_row(piece, reader):
    things = read_things(reader, 0)
    reader.expect("")
    piece.things_of[piece.line] = things
    work_row(piece, piece.line)


def read_again(piece, reader):
    first = reader.take_number(1, len(piece.rows))
    reader.expect("-")
    last = reader.take_number(first, len(piece.rows))
    reader.expect("")
    for source in [row.source for row in piece.rows[first - 1:last]]:
        work_row(piece, source)


def read_off(piece, reader):
    reader.expect("")
    if len(piece.rows) == 0:
        raise NoLine()
    piece.is_off = True


def read_line(piece, line):
    reader = Reader(tokens_of(line))
    word = reader.take()
    if word == "":
        return
    # Where nothing is cast on yet, cast is the one word that may stand, and it may stand nowhere else.
    if piece.is_off or (word == "cast") != (piece.stitches == 0):
        raise NoLine()
    if word == "cast":
        read_cast(piece, reader)
    elif word == "row":
        read_row(piece, reader)
    elif word == "again":
        read_again(piece, reader)
    elif word == "off":
        read_off(piece, reader)
    else:
        raise NoLine()


def read_pattern(piece, text):
    for line in lines_of(text):
        piece.line += 1
        read_line(piece, line)
    if not piece.is_off:
        piece.line += 1
        raise NoLine()


def seen_from_front(looks, number):
    if number % 2 == 1:
        return looks[::-1]
    return looks.replace("k", FOREIGN).replace("p", "k").replace(FOREIGN, "p")


def tell_chart(piece):
    lines = [seen_from_front(row.looks, number) + "\n" for number, row in enumerate(piece.rows, 1)]
    return "".join(lines[::-1])


def tell_works(piece):
    often = {}
    for row in piece.rows:
        for name, times in row.often.items():
            often[name] = often.get(name, 0) + times
    names = [name for name in list(WORKS) + [CABLE_NAME] if name in often]
    return "".join([name + " " + str(often[name]) + "\n" for name in names])


def chart(most, text):
    if most < 0 or most > MOST_TOLD:
        return [-2]
    piece = Piece()
    try:
        read_pattern(piece, text)
    except NoLine:
        return [-1000000 - piece.line]
    except TooFew:
        return [-2000000 - piece.line]
    except TooMany:
        return [-3000000 - piece.line]
    except TooMuch:
        return [-4000000 - piece.line]
    told = tell_chart(piece) + tell_works(piece)
    if len(told) > most:
        return [-1]
    return [len(told)] + [ord(sign) for sign in told]
