"""Roads carried along with changes."""

from gatewords.changes import changed, meaning_of_last, replaced
from gatewords.errors import BadRoad
from gatewords.groups import done, end_of_road, exchanges, is_step
from gatewords.letters import want_letters
from gatewords.papers import road_from_nothing, road_to_free


def mapped_step(back, behind, place, out, put):
    """The steps of the group behind that lead from out to put, into which a step was changed."""
    if out == put:
        return []
    if exchanges(behind, out, put):
        return [(place, out, put)]
    # What is left are letters that went, put in or taken out beside what undoes them.
    if put == ():
        return road_to_free(back, out, place)
    return road_from_nothing(back, put[:len(put) // 2], place)


def road_without_letters(group, behind, one, road):
    """The road with the last two letters of the group replaced by what they mean."""
    back = group.back
    _, meaning = meaning_of_last(group)
    word = one
    found = []
    for step in road:
        place, out, put = step
        at = len(replaced(back, meaning, word[:place]))
        sides = (replaced(back, meaning, out), replaced(back, meaning, put))
        found.extend(mapped_step(back, behind, at, sides[0], sides[1]))
        word = done(word, step)
    return found


def carried_road(group, change, one, road):
    """A road of the changed group between the changed words of the ends of a road."""
    behind = changed(group, change)
    want_letters(group.back, one)
    if end_of_road(group, one, road) is None:
        raise BadRoad("not a road of the group from there")
    if change[0] == "unletter":
        return road_without_letters(group, behind, one, road)
    if change[0] == "drop" and not all([is_step(behind, step) for step in road]):
        raise BadRoad("a step is not one of the changed group")
    return list(road)
