"""Webs of bands, told by the ends of their ties."""

from bandrims.bands.walks import hang_together, rim_steps, round_from, rounds_of
from bandrims.base.numbers import is_integer, is_number, is_within, need_within
from bandrims.base.pairs import as_pair, pair_total
from bandrims.errors import InvalidLengths, InvalidNumber, InvalidWeb

MAX_TIES = 24
MAX_RIMS = 8

# With four ends for each handle, more handles would make more than MAX_TIES ties.
_MOST_CROSSED = 12


class Web:
    """A web of ties that stand round places, with named rims; it never changes."""

    def __init__(self, after, mate, names):
        if not is_web_data((after, mate, names)):
            raise InvalidWeb("the three do not tell a web")
        self._after = after
        self._mate = mate
        self._names = names
        self._heads = tuple([end for end in range(len(mate)) if end < mate[end]])
        self._places = rounds_of(after)
        self._rims = _named_rims(rounds_of(rim_steps(after, mate)), names)
        self._handles = 1 - (len(self._places) - len(self._heads) + len(self._rims)) // 2

    @classmethod
    def bundle(cls, ties):
        """The web of so many ties from one place to another one, without handles."""
        need_within(ties, 1, MAX_RIMS)
        after = [0] * (2 * ties)
        for k in range(ties):
            after[2 * k] = 2 * ((k + 1) % ties)
            after[2 * ((k + 1) % ties) + 1] = 2 * k + 1
        names = [((end + 1) // 2) % ties for end in range(2 * ties)]
        return cls(tuple(after), _paired(ties), tuple(names))

    @classmethod
    def crossed(cls, handles):
        """The web of so many handles with one place and one rim, each two ties crossing one another."""
        need_within(handles, 1, _MOST_CROSSED)
        whole = [4 * handle + step for handle in range(handles) for step in (0, 2, 1, 3)]
        after = [0] * len(whole)
        for k, end in enumerate(whole):
            after[end] = whole[(k + 1) % len(whole)]
        return cls(tuple(after), _paired(2 * handles), (0,) * len(whole))

    @property
    def after(self):
        """For each end the next one round its place."""
        return self._after

    @property
    def mate(self):
        """For each end the other end of its tie."""
        return self._mate

    @property
    def names(self):
        """For each end the name of its rim."""
        return self._names

    @property
    def size(self):
        """The number of ties."""
        return len(self._heads)

    @property
    def heads(self):
        """The lesser ends of all ties, ascending."""
        return self._heads

    @property
    def places(self):
        """The rounds of all places."""
        return self._places

    @property
    def rims(self):
        """The rounds of all rims, by their names."""
        return self._rims

    @property
    def degrees(self):
        """The numbers of ends of all places."""
        return tuple([len(place) for place in self._places])

    @property
    def handles(self):
        """The number of handles."""
        return self._handles

    @property
    def is_full(self):
        """Whether each place has at least three ends."""
        return all([degree >= 3 for degree in self.degrees])

    @property
    def is_threes(self):
        """Whether each place has three ends."""
        return all([degree == 3 for degree in self.degrees])

    def place_round(self, end):
        """The round of the place of an end, from this end."""
        need_end(self, end)
        return round_from(self._after, end)

    def rim_round(self, end):
        """The round of the rim of an end, from this end."""
        need_end(self, end)
        return round_from(rim_steps(self._after, self._mate), end)

    def tie_of(self, end):
        """The index of the tie of an end."""
        need_end(self, end)
        return self._heads.index(min(end, self._mate[end]))

    def sides_of(self, end):
        """The names of the rims of an end and of its mate."""
        need_end(self, end)
        return (self._names[end], self._names[self._mate[end]])

    def __eq__(self, other):
        return (isinstance(other, Web) and self._after == other._after and self._mate == other._mate
                and self._names == other._names)

    def __len__(self):
        return len(self._heads)

    def __str__(self):
        return f"web of {self.size} ties, {len(self._places)} places, {len(self._rims)} rims, {self._handles} handles"


def need_web(web):
    """Refuses what is no web."""
    if not isinstance(web, Web):
        raise InvalidWeb("this is no web")


def need_end(web, end):
    """Refuses what is no end of the web."""
    need_within(end, 0, len(web.mate) - 1)


def _paired(ties):
    """The mates if 2 i and 2 i + 1 are mates."""
    return tuple([end + 1 - 2 * (end % 2) for end in range(2 * ties)])


def _named_rims(rims, names):
    """The rims in the sequence of their names."""
    by_name = {names[rim[0]]: rim for rim in rims}
    return tuple([by_name[name] for name in range(len(rims))])


def is_web_data(value):
    """Whether the value is a tuple of three tuples that tell a web."""
    if not isinstance(value, tuple) or len(value) != 3:
        return False
    after, mate, names = value
    if not _are_rows_of_ends(value) or not _are_steps(after, mate) or not hang_together(after, mate):
        return False
    return _are_names(rounds_of(rim_steps(after, mate)), names)


def _are_rows_of_ends(value):
    """Whether the three are tuples of as many integers, two for each tie."""
    if not all([isinstance(row, tuple) for row in value]):
        return False
    many = len(value[0])
    if many % 2 == 1 or not 2 <= many <= 2 * MAX_TIES or not all([len(row) == many for row in value]):
        return False
    return all([is_integer(number) for row in value for number in row])


def _are_steps(after, mate):
    """Whether after has each end once, and mate makes pairs of ends."""
    ends = list(range(len(after)))
    if sorted(after) != ends or sorted(mate) != ends:
        return False
    return all([mate[end] != end and mate[mate[end]] == end for end in ends])


def _are_names(rims, names):
    """Whether the rims have the names 0, 1, .., each rim its own."""
    if len(rims) > MAX_RIMS or sorted([names[rim[0]] for rim in rims]) != list(range(len(rims))):
        return False
    return all([names[end] == names[rim[0]] for rim in rims for end in rim])


def are_lengths(web, value):
    """Whether the value is lengths of the web."""
    need_web(web)
    if not isinstance(value, tuple) or len(value) != len(web):
        return False
    return all([is_number(length) and as_pair(length)[0] > 0 for length in value])


def are_whole_lengths(web, value):
    """Whether the value is whole lengths of the web."""
    return are_lengths(web, value) and all([is_integer(length) for length in value])


def rim_lengths(web, lengths):
    """The lengths of all rims, by their names."""
    if not are_lengths(web, lengths):
        raise InvalidLengths("the lengths are no tuple of one number above 0 for each tie")
    pairs = [as_pair(length) for length in lengths]
    return tuple([pair_total([pairs[web.tie_of(end)] for end in rim]) for rim in web.rims])


def tie_weights(web, name):
    """How many ends of each tie are of the rim with this name."""
    need_web(web)
    if not is_within(name, 0, len(web.rims) - 1):
        raise InvalidNumber(name)
    return tuple([web.sides_of(head).count(name) for head in web.heads])
