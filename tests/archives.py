"""Streams and calls for the tests: items, ends, and answers taken apart."""

from firsttree.desk import answers

FILE = 0x81A4
DIRECTORY = 0x41ED
LINK = 0xA1FF
NAME = b"TRAILER!!!"


def zeros(length):
    return bytes(-length % 4)


def head(mode=FILE, size=0, length=2, serial=0, names=1, major=0, minor=0, other=0, digits="%08X"):
    numbers = [serial, mode, other, other, names, other, size, major, minor, other, other, length, other]
    return b"070701" + "".join(digits % number for number in numbers).encode()


def start(name, mode, size, **rest):
    """An item's head and name, without the bytes 0 behind them."""
    return head(mode, size, length=len(name) + 1, **rest) + name + b"\0"


def bare(name, mode, data=b"", **rest):
    """An item without the bytes 0 behind its data."""
    first = start(name, mode, len(data), **rest)
    if not data:
        return first
    return first + zeros(len(first)) + data


def item(name, mode, data=b"", **rest):
    first = start(name, mode, len(data), **rest)
    return first + zeros(len(first)) + data + zeros(len(data))


def file(name, data=b"", **rest):
    return item(name, FILE, data, **rest)


def shared(name, data=b"", serial=7, names=2, **rest):
    return item(name, FILE, data, serial=serial, names=names, **rest)


def directory(name, **rest):
    return item(name, DIRECTORY, **rest)


def link(name, text, **rest):
    return item(name, LINK, text, **rest)


def end(mode=0, **rest):
    return start(NAME, mode, 0, **rest)


RESET = [1]
STATE = [3]


def feed(data):
    return [2, len(data), *data]


def kind(path):
    return [4, len(path), *path]


def size(path):
    return [5, len(path), *path]


def ask(*calls):
    """The answers to these calls on one object, a list each."""
    told = answers([number for call in calls for number in call])
    parts = []
    while told:
        count = told[0]
        assert count == len(told[1:1 + count])
        parts.append(told[1:1 + count])
        told = told[1 + count:]
    assert len(parts) == len(calls)
    return parts


def fault(data):
    """Code and place behind this stream, as feed and state tell them."""
    fed, state = ask(feed(data), STATE)
    assert fed == state[:3]
    return tuple(fed[1:])


def last(stream, *calls):
    """The answers to these calls behind this stream."""
    return ask(feed(stream), *calls)[1:]
