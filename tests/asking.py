"""Asks a function of the program, and sees to what holds of every call."""

import copy

from woodswell.swelling import judge

WAYS = [a + b for a in "rlbfud" for b in "rlbfud"
        if "rlbfud".index(a) // 2 != "rlbfud".index(b) // 2]


def to_bytes(text):
    return list(text.encode("latin-1"))


def ask(function, *arguments):
    """What the function answers, seen to be one list of whole numbers, with nothing changed and nothing kept."""
    before = copy.deepcopy(arguments)
    answer = function(*arguments)
    assert arguments == before, "what was handed in was changed"
    assert type(answer) is list, answer
    assert all(type(number) is int for number in answer), answer
    told = list(answer)
    answer.append(12345)
    again = function(*arguments)
    assert again == told, "a second call answers otherwise"
    assert arguments == before, "what was handed in was changed by the second call"
    return told


def judged(text):
    """What judge answers to a text, with a swell and a held corner for each put, so far as lists may be so long."""
    puts = min(32, sum(1 for line in text.split("\n") if line.startswith("put ")))
    return ask(judge, to_bytes(text), [0] * puts, [0] * puts)
