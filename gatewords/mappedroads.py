"""Roads led along by maps."""

from gatewords.errors import BadMap, BadRoad
from gatewords.groups import done, end_of_road
from gatewords.judgeds import want_judged
from gatewords.letters import want_word
from gatewords.maps import broken_at, images_of, want_map
from gatewords.papers import moved_road
from gatewords.roadmakers import road_joining


def road_mapped(judged, one, word, road):
    """A road between the images of both ends of a road, the letters' images one behind the other."""
    want_judged(judged)
    want_map(one)
    if one.target != judged.steady:
        raise BadMap("target")
    if broken_at(one) is not None:
        raise BadMap("images")
    want_word(one.source.back, word)
    if end_of_road(one.source, word, road) is None:
        raise BadRoad("not a road of the source from there")
    known = {}
    found = []
    here = word
    for step in road:
        place, out, put = step
        if (out, put) not in known:
            known[(out, put)] = road_joining(judged, images_of(one, out), images_of(one, put))
        found.extend(moved_road(known[(out, put)], len(images_of(one, here[:place]))))
        here = done(here, step)
    return found
