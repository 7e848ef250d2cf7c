"""A desk: webs under names, pledges that each change keeps, and changes that can be taken back."""

from bandrims.bands.changes import drawn_together, flipped, parted, put_in, taken_out
from bandrims.bands.webs import need_web
from bandrims.base.numbers import is_integer, is_name
from bandrims.errors import InvalidNumber, InvalidOperation, InvalidPledge, NothingToUndo, Refused, TooMany, UnknownName
from bandrims.use.stands import Stand, holds, news_between

MAX_WEBS = 6
MAX_PLEDGES = 10


def is_pledge(value):
    """Whether the value is a pledge."""
    if not isinstance(value, tuple) or len(value) < 2 or not is_name(value[1]):
        return False
    word = value[0]
    rest = value[2:]
    if word == "full":
        return len(rest) == 0
    if word == "alike":
        return len(rest) == 1 and is_name(rest[0])
    if not all([_is_size(number) for number in rest]):
        return False
    return len(rest) == 2 if word == "beside" else len(rest) == 1 and word in ("handles", "rims", "ties")


class Desk:
    """Up to six webs under unlike names, with pledges."""

    def __init__(self):
        self._stand = Stand({}, ())
        self._past = []
        self._coming = []

    def put(self, name, web):
        """With a further web."""
        _need_new_name(self._stand, name)
        need_web(web)
        _need_room(self._stand)
        return self._moved(_with_web(self._stand, name, web))

    def twice(self, name, one):
        """With a further web, equal to one that is there."""
        _need_new_name(self._stand, name)
        web = self.web_named(one)
        _need_room(self._stand)
        return self._moved(_with_web(self._stand, name, web))

    def draw(self, name, end):
        """With a tie of a web drawn together."""
        made = drawn_together(self.web_named(name), end)
        return self._moved(_with_web(self._stand, name, made))

    def part(self, name, first, second):
        """With a place of a web parted."""
        made = parted(self.web_named(name), first, second)
        return self._moved(_with_web(self._stand, name, made))

    def take(self, name, end):
        """With a tie of a web taken out."""
        made = taken_out(self.web_named(name), end)
        return self._moved(_with_web(self._stand, name, made))

    def tie(self, name, first, second):
        """With a tie put in a web."""
        made = put_in(self.web_named(name), first, second)
        return self._moved(_with_web(self._stand, name, made))

    def flip(self, name, end):
        """With a web flipped at an end."""
        made = flipped(self.web_named(name), end)
        return self._moved(_with_web(self._stand, name, made))

    def drop(self, name):
        """Without a web."""
        _need_known(self._stand, name)
        webs = self._stand.webs
        return self._moved(Stand({label: webs[label] for label in webs if label != name}, self._stand.pledges_told))

    def rename(self, names):
        """With other names of the webs; pledges keep theirs."""
        webs = self._stand.webs
        if not _are_new_names(names, sorted(webs)):
            raise InvalidOperation("the names do not lead from those on the desk to names that are unlike one another")
        return self._moved(Stand({names[label]: webs[label] for label in webs}, self._stand.pledges_told))

    def demand(self, pledge):
        """With a further pledge."""
        if not is_pledge(pledge):
            raise InvalidPledge("this is no pledge")
        pledges = self._stand.pledges_told
        if pledge in pledges:
            raise InvalidOperation("this pledge is there already")
        if len(pledges) == MAX_PLEDGES:
            raise TooMany(MAX_PLEDGES)
        return self._moved(Stand(self._stand.webs, pledges + (pledge,)))

    def waive(self, pledge):
        """Without a pledge."""
        pledges = self._stand.pledges_told
        if not is_pledge(pledge) or pledge not in pledges:
            raise InvalidOperation("this pledge is not there")
        return self._moved(Stand(self._stand.webs, tuple([other for other in pledges if other != pledge])))

    def undo(self, *, many=1):
        """Takes back so many changes."""
        _need_steps(many, self._past)
        before = self._stand
        for _ in range(many):
            self._coming.append(self._stand)
            self._stand = self._past.pop()
        return news_between(before, self._stand)

    def redo(self, *, many=1):
        """Does so many changes again that were taken back."""
        _need_steps(many, self._coming)
        before = self._stand
        for _ in range(many):
            self._past.append(self._stand)
            self._stand = self._coming.pop()
        return news_between(before, self._stand)

    def trial(self):
        """A block behind which the desk is as it was when the block was entered."""
        return Trial(self)

    def during(self, call):
        """What the call of the desk returns in such a block."""
        with self.trial() as same:
            return call(same)

    def twin(self):
        """An independent copy, with all that can be taken back and done again."""
        made = Desk()
        made._stand = self._stand
        made._past = list(self._past)
        made._coming = list(self._coming)
        return made

    def web_named(self, name):
        """The web with this name."""
        _need_known(self._stand, name)
        return self._stand.webs[name]

    @property
    def labels(self):
        """The names of the webs, ascending."""
        return tuple(self._stand.webs)

    @property
    def lines(self):
        """The lines of all webs, by ascending names."""
        return self._stand.lines_told

    @property
    def pledges(self):
        """The pledges, in the order of demands."""
        return self._stand.pledges_told

    @property
    def changes(self):
        """How many changes can be taken back."""
        return len(self._past)

    def __contains__(self, value):
        if isinstance(value, str):
            return value in self._stand.lines_told
        return is_pledge(value) and value in self._stand.pledges_told

    def __iter__(self):
        return iter(self._stand.lines_told)

    def __len__(self):
        return len(self._stand.pledges_told)

    def __eq__(self, other):
        return (isinstance(other, Desk) and self._stand.webs == other._stand.webs
                and self._stand.pledges_told == other._stand.pledges_told)

    def __str__(self):
        return f"desk of {len(self._stand.webs)} webs, {len(self._stand.pledges_told)} pledges"

    def _moved(self, stand):
        """Makes a change, which leads to this stand, unless a pledge would not hold; returns the news."""
        for pledge in stand.pledges_told:
            if not holds(stand.webs, pledge):
                raise Refused(pledge)
        before = self._stand
        self._past.append(before)
        self._coming = []
        self._stand = stand
        return news_between(before, stand)


class Trial:
    """What keeps a desk as it was when a block was entered."""

    def __init__(self, desk):
        self._desk = desk
        self._kept = None
        self._kept_past = []
        self._kept_coming = []

    def __enter__(self):
        desk = self._desk
        self._kept = desk._stand
        self._kept_past = list(desk._past)
        self._kept_coming = list(desk._coming)
        return desk

    def __exit__(self, kind, value, trace):
        desk = self._desk
        desk._stand = self._kept
        desk._past = self._kept_past
        desk._coming = self._kept_coming


def _is_size(value):
    """Whether the value is an integer of at least 0."""
    return is_integer(value) and value >= 0


def _with_web(stand, name, web):
    """The stand with a web under a name, in the place of the one that has it, if there is one."""
    webs = {label: stand.webs[label] for label in stand.webs}
    webs[name] = web
    return Stand(webs, stand.pledges_told)


def _are_new_names(value, labels):
    """Whether the value is a dict from just these names to names that are unlike one another."""
    if not isinstance(value, dict) or not all([is_name(label) and is_name(value[label]) for label in value]):
        return False
    told = sorted(list(value.values()))
    return sorted(value) == labels and all([told[k] < told[k + 1] for k in range(len(told) - 1)])


def _need_known(stand, name):
    """Refuses what is no name of a web on the desk."""
    if not is_name(name) or name not in stand.webs:
        raise UnknownName(name)


def _need_new_name(stand, name):
    """Refuses what is no name, and the names of the webs on the desk."""
    if not is_name(name) or name in stand.webs:
        raise InvalidOperation("this is no name that is free")


def _need_room(stand):
    """Refuses a further web if there are as many as there can be."""
    if len(stand.webs) == MAX_WEBS:
        raise TooMany(MAX_WEBS)


def _need_steps(many, rows):
    """Refuses what is no number of changes, and more changes than there are."""
    if not _is_size(many):
        raise InvalidNumber(many)
    if many > len(rows):
        raise NothingToUndo(many)
