"""Logs of live groups, cut off anywhere and grown again."""

from gatewords.errors import BadDeed, BadGroup, BadLive, BadLog, NotLet, TooMany
from gatewords.groups import Group
from gatewords.lives import Live
from gatewords.logs import log_told, record_told, records_of
from gatewords.values import want_bytes


def live_log(live):
    """The log of the first group of a Live and its present deeds."""
    if not isinstance(live, Live):
        raise BadLive("not a live group")
    first = ("group", live.first.back, live.first.rules)
    return log_told([first] + live.deeds())


def group_told(value):
    """The Group that a value tells; BadLog unless it tells one."""
    if not isinstance(value, tuple) or len(value) != 3 or value[0] != "group":
        raise BadLog("no group is told first")
    try:
        return Group(value[1], value[2])
    except BadGroup:
        raise BadLog("no group is told first")


def can_do(live, value):
    """Do a value if it is a deed that can be done; whether it was."""
    try:
        live.do(value)
        return True
    except (BadDeed, NotLet, TooMany):
        return False


def live_told(numbers):
    """The Live of a log, and the length of the log up to what could not be done."""
    want_bytes(numbers)
    told = records_of(numbers)
    if not told:
        raise BadLog("there is no record")
    live = Live(group_told(told[0][0]))
    length = told[0][1]
    for value, end in told[1:]:
        if not can_do(live, value):
            break
        length = end
    return live, length


def live_of(numbers):
    """The Live of a log, with the deeds that can be done, and the length of the log up to there."""
    return live_told(numbers)


def grown_log(numbers, deed):
    """The log as far as it tells a Live, with one more deed of it."""
    live, length = live_told(numbers)
    live.do(deed)
    return list(numbers[:length]) + record_told(deed)
