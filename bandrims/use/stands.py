"""What stands on a desk at one time; nothing here checks what it is passed."""

from bandrims.bands.numbering import least_code_of


class Stand:
    """Webs under their names, and pledges; it never changes."""

    def __init__(self, webs, pledges):
        self.webs = {name: webs[name] for name in sorted(webs)}
        self.pledges_told = pledges
        self.lines_told = tuple([_line(name, self.webs[name]) for name in self.webs])


def _line(name, web):
    """The line of a web."""
    rows = [" ".join([str(number) for number in row]) for row in (web.after, web.mate, web.names)]
    joined = " / ".join(rows)
    return f"{name}: {joined}"


def news_between(before, stand):
    """The lines that are there no more, and those that were not there before."""
    gone = [line for line in before.lines_told if line not in stand.lines_told]
    new = [line for line in stand.lines_told if line not in before.lines_told]
    return (tuple(sorted(gone)), tuple(sorted(new)))


def holds(webs, pledge):
    """Whether a pledge holds for these webs; none holds that names a web which is not there."""
    word = pledge[0]
    if pledge[1] not in webs:
        return False
    web = webs[pledge[1]]
    if word == "full":
        return web.is_full
    if word == "alike":
        return pledge[2] in webs and _code(web) == _code(webs[pledge[2]])
    if word == "beside":
        return sorted(pledge[2:]) in [sorted(web.sides_of(head)) for head in web.heads]
    sizes = {"handles": web.handles, "rims": len(web.rims), "ties": len(web)}
    return sizes[word] == pledge[2]


def _code(web):
    """The least code of a web."""
    return least_code_of(web.after, web.mate, web.names)
