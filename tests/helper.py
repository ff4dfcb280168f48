"""Calls written as bytes and answers parted call by call, for the tests."""

from ruletales.tale import answers

START = [1]
STATUS = [3]
STATE = [4]

LAMP = 'var lamp = off on; when "go" do lamp is on say "ok"; won if lamp is on;'


def to_bytes(text):
    return list(text.encode("latin-1")) if isinstance(text, str) else list(text)


def read(text):
    row = to_bytes(text)
    return [0, len(row)] + row


def say(line):
    row = to_bytes(line)
    return [2, len(row)] + row


def flat(calls):
    return [number for call in calls for number in call]


def parted(answered):
    rows = []
    at = 0
    while at < len(answered):
        end = at + 1 + answered[at]
        rows.append(answered[at + 1:end])
        at = end
    return rows


def play(*calls):
    return parted(answers(flat(calls)))


def play_tale(text, *calls):
    """The answers to calls behind a read and a start that must both be answered 0."""
    rows = play(read(text), START, *calls)
    assert rows[:2] == [[0], [0]], rows[:2]
    return rows[2:]


def told(text):
    return [2] + to_bytes(text)


def state(*chosen):
    return [len(chosen)] + list(chosen) + [0] * (24 - len(chosen))


def read_answer(text):
    rows = play(read(text))
    assert len(rows) == 1 and len(rows[0]) == 1, rows
    return rows[0][0]
