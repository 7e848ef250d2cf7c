"""Prints what every call of the package does with values of every kind.

.ci/run compares what this prints under all Pythons at hand: it must be the same to the letter.
"""

from bandrims.bands.webs import Web
from bandrims.base.formulas import Formula
from tests.calls import ONE, TWO, F, G, outcome
from tests.kinds import CROSS, RINGS, THETA, kinds, short
from tests.test_conventions import few


def main():
    for name, call in ONE.items():
        for value in kinds():
            print(f"{name}({short(value)}): {outcome(call, value)}")
    for name, call in TWO.items():
        for one in few():
            for other in few():
                print(f"{name}({short(one)}, {short(other)}): {outcome(call, one, other)}")
    for made in (F, G, F.times(F), F.power(5), G.power(20)):
        print(made, made.letters, made.degree, len(made), bool(made), made.terms)
    for web in (THETA, CROSS, RINGS, Web.bundle(8), Web.crossed(12)):
        print(web, web.heads, web.places, web.rims, web.degrees, web.handles, web.is_full, web.is_threes, len(web))
    print(Formula(8, {(1,) * 8: 1}))


main()
