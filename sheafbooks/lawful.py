"""RULES, and what is left of a MADE element in a setting, and its faults there."""

from sheafbooks.models import fits, is_model
from sheafbooks.parts import WORDS, elements_among
from sheafbooks.whens import holds
from sheafbooks.words import are_rising_pairs

RULES_MOST = 8


def is_rules(thing):
    """Whether a thing is RULES."""
    return are_rising_pairs(thing, RULES_MOST, is_rule)


def is_rule(thing):
    """Whether a thing is a rule of RULES."""
    return thing == "words" or is_model(thing)


def left_in(facets, element, setting):
    """A MADE element with what is left of its things, None where it isn't left."""
    kind, home, when, tie, things = element
    if not holds(facets, when, setting):
        return None
    inner = [thing if thing[0] in WORDS else left_in(facets, thing, setting) for thing in things]
    return (kind, home, when, tie, tuple([thing for thing in inner if thing is not None]))


def faults_in(facets, rules, element, setting):
    """The faults (path, word) of a MADE element in a setting, by paths."""
    return faults_under(facets, dict(rules), (), element, setting)


def faults_under(facets, rule_of, path, element, setting):
    """The faults of an element that stands at a path, and of all in it."""
    if not holds(facets, element[2], setting):
        return []
    faults = [(path, word) for word in fault_words(facets, rule_of, element, setting)]
    for at, thing in enumerate(element[4]):
        if thing[0] not in WORDS:
            faults.extend(faults_under(facets, rule_of, path + (at,), thing, setting))
    return faults


def fault_words(facets, rule_of, element, setting):
    """The words of the faults of an element that is left, not of those in it."""
    kind, home, when, tie, things = element
    inner = elements_among(things)
    stay = [thing for thing in inner if holds(facets, thing[2], setting)]
    gone = [thing for thing in inner if not holds(facets, thing[2], setting)]
    if kind not in rule_of:
        words = ["kind"]
    elif rule_of[kind] == "words":
        words = ["words"] if inner else []
    else:
        words = ["words"] if len(inner) < len(things) else []
        if not fits(rule_of[kind], [thing[0] for thing in stay]):
            words.append("row")
    return words + ["tie"] if parts_a_tie(stay, gone) else words


def parts_a_tie(stay, gone):
    """Whether some of one tie stay and some are gone."""
    ties = [thing[3] for thing in stay if thing[3] != ""]
    return any([thing[3] in ties for thing in gone])
