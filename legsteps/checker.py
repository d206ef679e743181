"""The checker: which claims about rules are shown by which papers.

The parts of a claim are what stands behind its word. Nothing of a claim or a paper is asked before its kind is known.
"""

from legsteps.arithmetic import NOUGHT
from legsteps.convergence import converges, why_not
from legsteps.energies import is_energy, is_table
from legsteps.lefts import is_safe, is_safe_in
from legsteps.likes import are_alike
from legsteps.numbers import is_above_0, is_fraction, is_point, is_whole
from legsteps.pairs import pair_word
from legsteps.plains import is_raising, keeps
from legsteps.polys import is_polynomial
from legsteps.reals import damps_all, undamped_below
from legsteps.roots import root_counts
from legsteps.rules import is_explicit, is_rule, order_of
from legsteps.spots import point_word


def are_rule_alone(parts):
    """Whether the parts are a rule alone."""
    return len(parts) == 1 and is_rule(parts[0])


def are_rule_and_above_0(parts):
    """Whether the parts are a rule and a fraction above 0."""
    return len(parts) == 2 and is_rule(parts[0]) and is_above_0(parts[1])


def are_rules(parts):
    """Whether the parts are two rules."""
    return len(parts) == 2 and is_rule(parts[0]) and is_rule(parts[1])


def are_counts(value):
    """Whether the value is a triple of whole numbers."""
    return isinstance(value, tuple) and len(value) == 3 and all([is_whole(each) for each in value])


def is_text(value, told):
    """Whether the value is the text told, or None if nothing is told."""
    return isinstance(value, str) and value == told


def shows_roots(parts):
    """Whether these are the counts of the polynomial's roots."""
    if len(parts) != 2:
        return False
    polynomial, counts = parts
    return is_polynomial(polynomial) and polynomial != () and are_counts(counts) and root_counts(polynomial) == counts


def shows_convergence(parts):
    """Whether the rule converges."""
    return are_rule_alone(parts) and converges(parts[0])


def shows_why_not(parts):
    """Whether this is the word why the rule does not converge."""
    return len(parts) == 2 and is_rule(parts[0]) and is_text(parts[1], why_not(parts[0]))


def shows_order(parts):
    """Whether this is the order of the rule."""
    return len(parts) == 2 and is_rule(parts[0]) and is_whole(parts[1]) and order_of(parts[0]) == parts[1]


def shows_word(parts):
    """Whether this is the word of the rule at the point."""
    if len(parts) != 3 or not is_rule(parts[0]) or not is_point(parts[1]):
        return False
    return is_text(parts[2], point_word(parts[0], parts[1]))


def shows_damping(parts):
    """Whether the rule damps all real numbers below 0."""
    return are_rule_alone(parts) and damps_all(parts[0])


def shows_safety(parts):
    """Whether the rule is safe."""
    return are_rule_alone(parts) and is_safe(parts[0])


def shows_safety_in(parts):
    """Whether the rule is safe in the wedge."""
    return are_rule_and_above_0(parts) and is_safe_in(parts[0], parts[1])


def shows_keeping(parts):
    """Whether the rule keeps at the ratio what plain steps keep."""
    return are_rule_and_above_0(parts) and keeps(parts[0], parts[1])


def shows_likeness(parts):
    """Whether the rules are alike."""
    return are_rules(parts) and are_alike(parts[0], parts[1])


def shows_no_likeness(parts):
    """Whether the rules are not alike."""
    return are_rules(parts) and not are_alike(parts[0], parts[1])


def shows_pair(parts):
    """Whether this is the word of the pair at the point."""
    if len(parts) != 5 or not are_rules(parts[:2]):
        return False
    guess, correction, number, point, word = parts
    if len(guess[0]) != len(correction[0]) or not is_explicit(guess):
        return False
    if not is_whole(number) or number < 1 or number > 6 or not is_point(point):
        return False
    return is_text(word, pair_word(guess, correction, number, point))


def is_undamped(rule, point):
    """Whether the point has a real part below 0, and the rule does not damp it."""
    return point[0][0] < 0 and point_word(rule, point) != "damped"


def shows_a_miss(parts, paper):
    """Whether the paper shows that the rule does not damp all real numbers below 0."""
    if not are_rule_alone(parts) or not isinstance(paper, tuple):
        return False
    if not paper:
        return not damps_all(parts[0]) and undamped_below(parts[0]) is None
    return is_fraction(paper) and is_undamped(parts[0], (paper, NOUGHT))


def shows_unsafety(parts, paper):
    """Whether the paper is a point on the left that the rule does not damp."""
    return are_rule_alone(parts) and is_point(paper) and is_undamped(parts[0], paper)


def is_in_wedge(point, slope):
    """Whether a point with a real part below 0 is in the wedge of the slope."""
    (across, width), (along, height) = point
    return abs(along) * width * slope[1] < -across * height * slope[0]


def shows_unsafety_in(parts, paper):
    """Whether the paper is a point of the wedge that the rule does not damp."""
    if not are_rule_and_above_0(parts) or not is_point(paper):
        return False
    return is_in_wedge(paper, parts[1]) and is_undamped(parts[0], paper)


def shows_energy(parts, paper):
    """Whether the paper is an energy of the rule."""
    return are_rule_alone(parts) and is_table(paper, len(parts[0][0]) - 1) and is_energy(parts[0], paper)


def shows_raising(parts, paper):
    """Whether the paper is a raising play of the rule at the ratio."""
    return are_rule_and_above_0(parts) and is_raising(parts[0], parts[1], paper)


# Claims whose paper is ().
PLAIN_CLAIMS = {
    "roots": shows_roots, "converges": shows_convergence, "fails": shows_why_not, "order": shows_order,
    "word": shows_word, "damps all": shows_damping, "safe": shows_safety, "safe in": shows_safety_in,
    "keeps": shows_keeping, "alike": shows_likeness, "not alike": shows_no_likeness, "pair": shows_pair,
}
CLAIMS_WITH_PAPERS = {
    "misses": shows_a_miss, "unsafe": shows_unsafety, "unsafe in": shows_unsafety_in, "energy": shows_energy,
    "raises": shows_raising,
}


def accepts(claim, paper):
    """Whether the claim is one for the checker, and the paper is one for it."""
    if not isinstance(claim, tuple) or not claim or not isinstance(claim[0], str):
        return False
    word, parts = claim[0], claim[1:]
    if word in CLAIMS_WITH_PAPERS:
        shows = CLAIMS_WITH_PAPERS[word]
        return shows(parts, paper)
    if word not in PLAIN_CLAIMS or not isinstance(paper, tuple) or paper:
        return False
    is_so = PLAIN_CLAIMS[word]
    return is_so(parts)
