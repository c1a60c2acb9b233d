"""How the tests spell calls, and how they read the answers."""

from citedcases.courts import answers

FAR = 4294967295


def begins(*sides):
    return [0, len(sides), *sides, 0]


def court(above=0):
    return [1, 1, above, 0]


def decide(of, day, side, findings=(), reason=(), overruled=()):
    rest = [len(findings), *findings, len(reason), *reason, *overruled]
    return [2, 3 + len(rest), of, day, side, *rest, 0]


def stands(decision, day):
    return [3, 2, decision, day, 0]


def binds(of, day):
    return [4, 2, of, day, 0]


def forced(of, day, findings=()):
    return [5, 2 + len(findings), of, day, *findings, 0]


def distinguish(decision, findings=()):
    return [6, 1 + len(findings), decision, *findings, 0]


def may(of, day, side, findings=(), reason=()):
    rest = [len(findings), *findings, *reason]
    return [7, 3 + len(rest), of, day, side, *rest, 0]


def free(of, day, side, findings=()):
    return [8, 3 + len(findings), of, day, side, *findings, 0]


def life(decision):
    return [9, 1, decision, 0]


def spelled(calls):
    return [number for call in calls for number in call]


def told(*calls):
    """The answers, one list for each call."""
    flat = answers(spelled(calls))
    parted = []
    at = 0
    while at < len(flat):
        parted.append(flat[at + 1:at + 1 + flat[at]])
        at += 1 + flat[at]
    if at != len(flat) or len(parted) != len(calls):
        raise AssertionError(f"ill spelled answers {flat}")
    return parted


def last(*calls):
    return told(*calls)[-1]
