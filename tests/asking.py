"""Writes calls as numbers, and parts the numbers that are answered into one list a call."""
from coneyears.nursery import answers

GREATEST = 4294967295


def call(number, numbers):
    return [number, len(numbers)] + list(numbers) + [0]


def begins(beds, losses, seedlings):
    return call(0, [beds] + list(losses) + list(seedlings))


def years(*pairs):
    return call(1, [number for pair in pairs for number in pair])


def follow(*row):
    return call(2, row)


def lift(*pairs):
    return call(3, [number for pair in pairs for number in pair])


def best():
    return call(4, [])


def more(year, wanted):
    return call(5, [year, wanted])


def parted(numbers):
    parts = []
    place = 0
    while place < len(numbers):
        end = place + 1 + numbers[place]
        parts.append(numbers[place + 1:end])
        place = end
    if place != len(numbers):
        raise ValueError("the last answer is shorter than is told")
    return parts


def ask(*calls):
    return parted(answers([number for one in calls for number in one]))


def last(*calls):
    return ask(*calls)[-1]
