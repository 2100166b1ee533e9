"""What the tests ask chart with, and how they read its answers."""

import contextlib
import signal

from knitrows.patterns import chart

MOST = 8388608

NO_LINE = -1000000
TOO_FEW = -2000000
TOO_MANY = -3000000
TOO_MUCH = -4000000


def numbers(pattern):
    return list(pattern.encode("latin-1"))


def ask(pattern, most=MOST):
    return chart(most, numbers(pattern))


def told(pattern, most=MOST):
    answer = ask(pattern, most)
    if answer[0] < 0:
        raise AssertionError(f"refused with {answer}: {pattern[:200]!r}")
    text = bytes(answer[1:]).decode("latin-1")
    if answer[0] != len(text):
        raise AssertionError(f"{answer[0]} bytes are promised, {len(text)} are told")
    return text


def one_row(cast, things):
    return f"cast {cast}\nrow {things}\noff\n"


def grown(stitches):
    """Four lines, of which the last is a row of so many stitches, 2048 to 4096."""
    return f"cast 512\nrow *(kf)\nrow *(kf)\nrow to {4096 - stitches} kf,*(k)\n"


@contextlib.contextmanager
def within(seconds):
    """A call that doesn't come to an end fails its test instead of holding up all of them."""
    def stop(signum, frame):
        raise AssertionError(f"no answer within {seconds} seconds")
    before = signal.signal(signal.SIGALRM, stop)
    signal.alarm(seconds)
    try:
        yield
    finally:
        signal.alarm(0)
        signal.signal(signal.SIGALRM, before)
