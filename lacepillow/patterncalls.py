"""The calls that change the patterns: put, pins, keep, drop."""

from lacepillow.laces import form
from lacepillow.limits import MOST_ACTS, MOST_PATTERNS, MOST_PINS
from lacepillow.pricking import acts_of_pricking, fault_of_pricking
from lacepillow.refusals import ABSENT, DONE, FAULTY, FULL, TAKEN, UNFIT, WRONG
from lacepillow.texts import read_text
from lacepillow.words import is_name, text_of


def refusal_of_name(pillow, word):
    """The refusal of a name to be put, or DONE."""
    if not is_name(word):
        return WRONG
    if word in pillow.patterns:
        return TAKEN
    if len(pillow.patterns) >= MOST_PATTERNS:
        return FULL
    return DONE


def lay_pattern(pillow, word, acts):
    """Lay the acts as a pattern under a name that may be put."""
    if len(acts) > MOST_ACTS:
        return [FULL]
    patterns = dict(pillow.patterns)
    patterns[word] = form(acts)
    pillow.change(pillow.pairs, pillow.piece, patterns)
    return [DONE]


def put(pillow, name, text):
    """The pattern that a text means."""
    word = text_of(name)
    refusal = refusal_of_name(pillow, word)
    if refusal != DONE:
        return [refusal]
    reading = read_text(text)
    if len(reading.fault) > 0:
        return [FAULTY] + reading.fault
    if reading.pairs != pillow.pairs:
        return [UNFIT]
    return lay_pattern(pillow, word, reading.acts)


def pins(pillow, name, pricked):
    """The pattern that a pricking's full orders make."""
    word = text_of(name)
    refusal = refusal_of_name(pillow, word)
    if refusal != DONE:
        return [refusal]
    if len(pricked) > MOST_PINS:
        return [WRONG]
    fault = fault_of_pricking(pricked, pillow.pairs)
    if len(fault) > 0:
        return [FAULTY] + fault
    acts = acts_of_pricking(pricked, pillow.pairs)
    if acts is None:
        return [UNFIT]
    return lay_pattern(pillow, word, acts)


def keep(pillow, name):
    """The piece as a pattern."""
    word = text_of(name)
    refusal = refusal_of_name(pillow, word)
    if refusal != DONE:
        return [refusal]
    return lay_pattern(pillow, word, pillow.piece)


def drop(pillow, name):
    """Take a pattern away."""
    word = text_of(name)
    if word not in pillow.patterns:
        return [ABSENT]
    left = dict(pillow.patterns)
    left.pop(word)
    pillow.change(pillow.pairs, pillow.piece, left)
    return [DONE]
