"""All errors of the package; each one stands directly below GroupError."""


class GroupError(ValueError):
    """What all errors of the package are."""


class BadBack(GroupError):
    """Something is no back."""


class BadBytes(GroupError):
    """Numbers are not the bytes of a value; place tells how far they were."""

    def __init__(self, place):
        super().__init__("not the bytes of a value")
        self.place = place


class BadChange(GroupError):
    """Something is no change."""


class BadClaim(GroupError):
    """Something is no claim, or a part of one is not right."""

    def __init__(self, part):
        super().__init__("not right for a claim")
        self.part = part


class BadDeed(GroupError):
    """Something is no deed."""


class BadFraction(GroupError):
    """Something is no fraction."""


class BadGiant(GroupError):
    """Something is no giant, or not one with the right back."""

    def __init__(self, part):
        super().__init__("not right for a giant")
        self.part = part


class BadGroup(GroupError):
    """Something is no group, or a part of one is not right."""

    def __init__(self, part):
        super().__init__("not right for a group")
        self.part = part


class BadJudged(GroupError):
    """Something is no judged claim, or a part of one is not right."""

    def __init__(self, part):
        super().__init__("not right for a judged claim")
        self.part = part


class BadLefts(GroupError):
    """Machines are not those of the letters ahead; place tells the letter."""

    def __init__(self, place):
        super().__init__("not the machine of a letter ahead")
        self.place = place


class BadLive(GroupError):
    """Something is no live group."""


class BadLog(GroupError):
    """Something is no log of a live group."""


class BadMachine(GroupError):
    """Something is no machine, or a part of one is not right."""

    def __init__(self, part):
        super().__init__("not right for a machine")
        self.part = part


class BadMap(GroupError):
    """Something is no map, or a part of one is not right."""

    def __init__(self, part):
        super().__init__("not right for a map")
        self.part = part


class BadNumber(GroupError):
    """A number is not one of those that may stand there."""

    def __init__(self, part):
        super().__init__("not a number that may stand there")
        self.part = part


class BadPaper(GroupError):
    """Something is no paper."""


class BadQuestion(GroupError):
    """Something is no question."""


class BadRoad(GroupError):
    """Something is no road."""


class BadSpelling(GroupError):
    """Something is no spelling."""


class BadSteady(GroupError):
    """Something is no steady claim; fault tells why."""

    def __init__(self, fault):
        super().__init__("not a steady claim")
        self.fault = fault


class BadStep(GroupError):
    """Something is no step that can be done."""


class BadSubgroup(GroupError):
    """Something is no subgroup, or a part of one is not right."""

    def __init__(self, part):
        super().__init__("not right for a subgroup")
        self.part = part


class BadSystem(GroupError):
    """Something is no system, or a part of one is not right."""

    def __init__(self, part):
        super().__init__("not right for a system")
        self.part = part


class BadText(GroupError):
    """Something is no text of its sort; at tells how far it was one."""

    def __init__(self, at):
        super().__init__("not a text of this sort")
        self.at = at


class BadValue(GroupError):
    """Something is no value."""


class BadWord(GroupError):
    """Something is no word, or no row."""


class Endless(GroupError):
    """There is no end of what was asked for."""


class NoGroup(GroupError):
    """Machines tell no group."""


class NotLet(GroupError):
    """Something cannot be done; why tells the reason."""

    def __init__(self, why):
        super().__init__("this cannot be done")
        self.why = why


class NotShort(GroupError):
    """Normal words are not as short as can be."""


class TooMany(GroupError):
    """There are more than most of something."""

    def __init__(self, most):
        super().__init__("more than are let")
        self.most = most
