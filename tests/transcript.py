"""Prints what every call of the package does with values of every kind.

.ci/run compares what this prints under all Pythons at hand: it must be the same to the letter.
"""

from bandrims.bands.changes import flips_between
from bandrims.bands.codes import has_turning, least_code, rim_orders, symmetries
from bandrims.bands.webs import Web
from bandrims.base.formulas import Formula
from bandrims.crossing.rounds import (
    crossing_table, is_bridge, mixed_table, rim_row, rim_weights, tight_number, tree_rounds, tree_ties)
from bandrims.lots.lists import degree_numbers, drawn_places, full_webs, threes_webs, web_sum
from bandrims.nodes.pieces import all_joined, closed_euler, joined_form, joined_terms, node_numbers
from bandrims.sides.pairings import pairings, web_of_pairing
from bandrims.sides.solutions import count_by_lists, least_solutions
from bandrims.signs.euler import euler_number, one_rim_sum, signed_sum, tie_sums, zero_value
from bandrims.signs.onerim import bare_gluings, full_gluings, gluing_of_web, gluing_row, gluing_value, turns_of, web_of_gluing
from bandrims.tables.forms import count, count_forms, sum_below
from bandrims.tables.recursion import count_by_rims
from bandrims.tops.tau import tau_by_rules, tau_row, tau_terms
from bandrims.tops.threes import tau_by_threes, tau_sum, threes_sum, threes_terms
from bandrims.tops.volumes import grown, short_rim_form, volume_form, zero_rim_form
from bandrims.wide.borders import border_cut, border_slope, kernel, wide_by_tau, wide_form, wide_value
from tests.calls import ONE, TWO, F, G, outcome
from tests.kinds import CROSS, RINGS, THETA, kinds, short, show
from tests.specs import ALL
from tests.test_changes import LISTED
from tests.test_conventions import few
from tests.test_borders import CUT, WIDE
from tests.test_onerim import some_gluings
from tests.test_pieces import SMALL, some_pieces
from tests.test_recursion import PAIRS, some_rims
from tests.test_rounds import webs
from tests.test_tau import some_exponents


def main():
    for name, call in ONE.items():
        for value in kinds():
            print(f"{name}({short(value)}): {outcome(call, value)}")
    for name, call in TWO.items():
        for one in few():
            for other in few():
                print(f"{name}({short(one)}, {short(other)}): {outcome(call, one, other)}")
    for made in (F, G, F.times(F), F.power(5), G.power(20)):
        print(made, made.letters, made.degree, len(made), bool(made), made.terms)
    for web in (THETA, CROSS, RINGS, Web.bundle(8), Web.crossed(12)):
        print(web, web.heads, web.places, web.rims, web.degrees, web.handles, web.is_full, web.is_threes, len(web))
    print(Formula(8, {(1,) * 8: 1}))
    wrong_values()
    webs_and_lists()
    counts()
    tops_and_signs()
    pieces_and_borders()
    rows_of_webs()


def wrong_values():
    """What all functions with told parameters do with values of every kind in the place of each one."""
    for name, (call, parameters) in ALL.items():
        samples = [parameter.sample for parameter in parameters]
        for place in range(len(parameters)):
            for value in kinds():
                args = samples[:place] + [value] + samples[place + 1:]
                print(f"{name}, {place}, {short(value)}: {outcome(call, *args)}")


def webs_and_lists():
    """What lists and webs of lists are like."""
    for pair in LISTED:
        webs = full_webs(*pair)
        print(pair, show(webs), degree_numbers(*pair), [web_sum(*pair, ties) for ties in range(1, 11)])
        for web in webs[::9]:
            print(least_code(web), symmetries(web), rim_orders(web), has_turning(web), drawn_places(web))
            print(least_solutions(web, (6,) * pair[1]))
        threes = threes_webs(*pair)
        print([flips_between(threes[0], web) for web in threes])
    for rims in ((2, 2, 2), (8,), (3, 5)):
        print([(pairing, outcome(web_of_pairing, rims, pairing)) for pairing in pairings(rims)])


def counts():
    """Counts in several ways, forms and tau numbers."""
    for pair in PAIRS:
        print(pair, [str(form) for form in count_forms(*pair)], tau_row(*pair))
    for handles, rims in some_rims(20):
        print(handles, rims, count_by_rims(handles, rims), count(handles, rims), sum_below(handles, rims),
              outcome(count_by_lists, handles, rims))
    for exponents in some_exponents():
        print(exponents, tau_terms(exponents), tau_by_rules(exponents))


def tops_and_signs():
    """Volumes, sums over webs of threes, sums with signs and gluings."""
    for pair in PAIRS:
        print(pair, [str(call(*pair)) for call in (volume_form, zero_rim_form, short_rim_form)], grown(*pair, (3, 7)).terms)
        values = tuple(range(2, 2 + pair[1]))
        print([outcome(call, *pair, values) for call in (tau_sum, threes_sum, threes_terms)])
        print([outcome(call, *pair) for call in (euler_number, tie_sums, signed_sum, zero_value)])
    for exponents in some_exponents():
        print(exponents, outcome(tau_by_threes, exponents))
    print([one_rim_sum(handles) for handles in range(1, 7)], [euler_number(20, many) for many in range(21)])
    for ties in range(0, 101, 9):
        print(ties, gluing_row(ties), gluing_value(ties, 7), bare_gluings(2, ties), full_gluings(5, ties))
    for pairing in some_gluings():
        web = web_of_gluing(pairing)
        print(pairing, web, turns_of(pairing), [gluing_of_web(web, end) for end in range(0, len(pairing), 7)])


def pieces_and_borders():
    """Joined pieces, their counts and forms, and wide forms."""
    for pair in SMALL:
        print(pair, show(all_joined(*pair)), node_numbers(*pair), closed_euler(*pair), str(joined_form(*pair, 2 * (pair[1] // 2))))
        print(joined_terms(pair[0], tuple(range(0, 2 * pair[1], 2))))
    for joined in some_pieces():
        print(joined, joined.points, joined.handles, joined.many, joined.depth, joined.rearrangements, show(joined.least()),
              [outcome(joined.drawn, number) for number in range(len(joined.nodes))])
    for pair in WIDE:
        print(pair, str(wide_form(*pair)), str(wide_by_tau(*pair)), wide_value(pair[0], (2,) * pair[1], (1, 3)))
    print([str(kernel(step)) for step in range(1, 21)], [(str(border_cut(*pair)), str(border_slope(*pair))) for pair in CUT])


def rows_of_webs():
    """Trees, rounds, crossings and tight lots of webs of all sorts."""
    for web in webs()[::2]:
        tree = tree_ties(web)
        rounds = tree_rounds(web, tree)
        print(web, tree, rounds, crossing_table(web, tree), mixed_table(web, tree), tight_number(web))
        print([rim_row(web, name) for name in range(len(web.rims))], [rim_weights(web, row) for row in rounds],
              [is_bridge(web, end) for end in web.heads])


main()
