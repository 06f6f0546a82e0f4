"""The calls. Each answers a list: 0 and what is told, or a refusal's number below 0."""

from strikecase.form import one_form
from strikecase.pleading import least_weights
from strikecase.reading import NO_CASE, read_text

DONE = 0
OUT_OF_BOUNDS = -1


def read(t):
    reading = read_text(t)
    if reading.refusal == NO_CASE:
        return [NO_CASE, reading.kind, reading.place]
    return [reading.refusal]


def print_form(t):
    reading = read_text(t)
    if reading.refusal != DONE:
        return [reading.refusal]
    return [DONE] + one_form(reading.case)


def count(what, t):
    reading = read_text(t)
    if reading.refusal != DONE:
        return [reading.refusal]
    if what == 0:
        return [DONE, len(reading.case.laws)]
    if what == 1:
        return [DONE, len(reading.case.rules)]
    if what == 2:
        return [DONE, len(reading.case.atoms)]
    if what == 3:
        return [DONE, len(least_weights(reading.case))]
    return [OUT_OF_BOUNDS]
