"""Builds rows of calls and takes their answers apart, for all tests of the project."""

from saylayers.records import answers


def row(text):
    """A text as bytes: a str stands for its bytes 0 to 255."""
    return list(text.encode("latin-1") if isinstance(text, str) else text)


def counted(text):
    numbers = row(text)
    return [len(numbers)] + numbers


def load(k, layer, text):
    return [1, k, layer] + counted(text)


def drop(k, layer):
    return [2, k, layer]


def kind(k, path):
    return [3, k] + counted(path)


def value(k, path):
    return [4, k] + counted(path)


def origin(k, path):
    return [5, k] + counted(path)


def why(k, layer, path):
    return [6, k, layer] + counted(path)


def after(k, text):
    """The call next, under a name that Python does not use."""
    return [7, k] + counted(text)


def printed(k):
    """The call print, under a name that Python does not use."""
    return [8, k]


def count(k):
    return [9, k]


def same():
    return [10]


def apart(told):
    """The answers one by one, without their counts."""
    found = []
    at = 0
    while at < len(told):
        end = at + 1 + told[at]
        assert end <= len(told), "an answer's count goes beyond the list"
        found.append(told[at + 1:end])
        at = end
    return found


def run(*calls):
    given = []
    for call in calls:
        given += call
    return apart(answers(given))


def last(*calls):
    return run(*calls)[-1]


def spelled(answer):
    """The bytes behind an answer's 0, as a text."""
    assert answer[0] == 0, answer
    return bytes(answer[1:]).decode("latin-1")


def loaded(text):
    """What loading the text into an empty record answers."""
    return last(load(0, 0, text))


def read(written, path="a"):
    """What holds at the path once the text is loaded, or load's refusal."""
    told = run(load(0, 0, written), value(0, path))
    return told[1] if told[0] == [0, 0] else told[0]


def path_of(size):
    """A path of just so many bytes, of names as long as they may be."""
    names = []
    while size > 24:
        names.append("n" * (24 if size != 25 else 23))
        size -= len(names[-1]) + 1
    return ".".join(names + ["n" * size])
