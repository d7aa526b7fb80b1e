"""Whether a MADE element is lawful in all settings, and what shows it."""

from sheafbooks.cases import cases_in_common, cases_of, cases_without, shows_cases
from sheafbooks.facets import is_setting, settings_in, whole_case
from sheafbooks.lawful import faults_in
from sheafbooks.parts import elements_among
from sheafbooks.whens import ALWAYS, told_in


def judged(facets, rules, element):
    """("unlawful", the least SETTING with faults) or ("lawful", CASEs that show it)."""
    cases = settled(facets, element, [whole_case(facets)])
    # All settings of such a case leave the same: so what is told of its least one is told of all.
    least = [settings_in(case)[0] for case in cases]
    bad = [setting for setting in least if faults_in(facets, rules, element, setting)]
    return ("unlawful", min(bad)) if bad else ("lawful", cases)


def settled(facets, element, cases):
    """The CASEs, parted so that in each it's settled which elements of this one are left."""
    inside, outside = parted(facets, element[2], cases)
    for inner in elements_among(element[4]):
        inside = settled(facets, inner, inside)
    return inside + outside


def parted(facets, when, cases):
    """The CASEs of the settings in which a WHEN holds, and those of the others."""
    held = cases_of(facets, when)
    inside = []
    outside = []
    for case in cases:
        told = told_in(facets, when, case)
        if told is None:
            inside.extend(cases_in_common([case], held))
            outside.extend(cases_without([case], held))
        elif told:
            inside.append(case)
        else:
            outside.append(case)
    return inside, outside


def is_settled(facets, element, case):
    """Whether it's settled in a CASE which elements of this one are left."""
    told = told_in(facets, element[2], case)
    if told is None:
        return False
    if not told:
        return True
    return all([is_settled(facets, inner, case) for inner in elements_among(element[4])])


def shows_lawful(facets, rules, element, thing):
    """Whether a thing is such a list of CASEs as judged tells."""
    if not shows_cases(facets, ALWAYS, thing):
        return False
    if not all([is_settled(facets, element, case) for case in thing]):
        return False
    return not any([faults_in(facets, rules, element, settings_in(case)[0]) for case in thing])


def shows_unlawful(facets, rules, element, thing):
    """Whether a thing is a SETTING in which there are faults."""
    return is_setting(facets, thing) and len(faults_in(facets, rules, element, thing)) > 0
