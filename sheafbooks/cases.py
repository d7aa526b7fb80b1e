"""The CASEs of the settings in which a WHEN holds."""

from sheafbooks.facets import common, is_case, settings_in, whole_case, without
from sheafbooks.whens import holds, place_of


def cases_of(facets, when):
    """CASEs, no SETTING in two of them, of just the SETTINGs in which a WHEN holds."""
    word = when[0]
    whole = whole_case(facets)
    if word == "always":
        return [whole]
    if word == "is":
        at = place_of(facets, when[1])
        return [whole[:at] + (when[2],) + whole[at + 1:]]
    first = cases_of(facets, when[1])
    if word == "not":
        return cases_without([whole], first)
    second = cases_of(facets, when[2])
    if word == "both":
        return cases_in_common(first, second)
    return first + cases_without(second, first)


def cases_without(cases, others):
    """The CASEs of the SETTINGs that the cases have and none of the others has."""
    for other in others:
        cases = [rest for case in cases for rest in without(case, other)]
    return cases


def cases_in_common(cases, others):
    """The CASEs of the SETTINGs that stand in the cases and in the others."""
    shared = [common(case, other) for case in cases for other in others]
    return [case for case in shared if case is not None]


def shows_cases(facets, when, thing):
    """Whether a thing is such a list as cases_of tells."""
    every = settings_in(whole_case(facets))
    # No more cases than settings can be apart: so a list of any length is soon told.
    if not isinstance(thing, list) or len(thing) > len(every):
        return False
    if not all([is_case(facets, case) for case in thing]):
        return False
    shown = [setting for case in thing for setting in settings_in(case)]
    # A setting that stands in two cases is twice in what is shown, so the lists differ then, too.
    return sorted(shown) == [setting for setting in every if holds(facets, when, setting)]
