"""Runs: steps of a program, one after another."""

from latebound.errors import NotThere
from latebound.process import Process

AWAY = ("away",)


def run(program, steps):
    """The answers that a new Process gives to these STEPs."""
    process = Process(program)
    return [told(process, step) for step in steps]


def process_behind(program, steps):
    """A Process in the stand behind these STEPs."""
    process = Process(program)
    for step in steps:
        told(process, step)
    return process


def told(process, step):
    """What the Process answers to this STEP of a run: a call of a LIB that is not there is away, no error."""
    try:
        return process.do(step)
    except NotThere:
        return AWAY
