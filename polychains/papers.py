"""Papers that the checker accepts (points 10.1 to 10.6)."""

from polychains.classes import class_of, conjugator
from polychains.collect import failing_overlap
from polychains.complement import combination, complement
from polychains.hall import hall
from polychains.subgroup import generated


def consistency_paper(presentation):
    """Returns a paper that the presentation is consistent, or with its first overlap that fails."""
    word = failing_overlap(presentation)
    if word is None:
        return ("consistent",)
    return "overlap", word


def _steps_to(group, items, x):
    """Returns a dict from products of the items to the letter and the product before, until `x` is one."""
    steps = {group.identity(): None}
    waiting = [group.identity()]
    done = 0
    while x not in steps:
        before = waiting[done]
        done += 1
        for k, item in enumerate(items):
            after = group.multiply(before, item)
            if after not in steps:
                steps[after] = (k + 1, before)
                waiting.append(after)
    return steps


def _word_for(group, items, x):
    """Returns a shortest word without inverses in the items whose product is `x`, which they generate."""
    steps = _steps_to(group, items, x)
    letters = []
    while steps[x] is not None:
        letter, x = steps[x]
        letters.append(letter)
    return tuple(letters[::-1])


def member_paper(group, items, x):
    """Returns a paper that an element is in the subgroup that the items generate, or that it is not."""
    u = generated(group, items)
    if u.contains(x):
        return "word", _word_for(group, items, x)
    return "sequence", u.rows


def complement_paper(group, n):
    """Returns a paper with a complement of the subgroup, or that it has none."""
    found = complement(group, n)
    if found is None:
        return "combination", combination(group, n)
    return "complement", found.rows


def hall_paper(group, primes):
    """Returns a paper of a Hall subgroup for the primes."""
    return "hall", hall(group, primes).rows


def conjugate_paper(group, x, y):
    """Returns a paper that two elements are conjugate, or that they are not."""
    z = conjugator(group, x, y)
    if z is None:
        return "apart", class_of(group, x)
    return "by", z
