"""Points 84 to 86: values and their bytes, logs cut off anywhere, histories of live groups."""

import itertools
import random
import unittest

from gatewords.errors import BadBytes, BadDeed, BadLive, BadLog, BadValue, NotLet
from gatewords.groups import Group
from gatewords.histories import grown_log, live_log, live_of
from gatewords.lives import Live
from gatewords.logs import log_of, read_log, record
from gatewords.values import value_bytes, value_of
from tests.examples import THREE, three_claim
from tests.helpers import ODD_VALUES, refused


def deep(many):
    """Tuples within one another, so many."""
    value = ()
    for _ in range(many - 1):
        value = (value,)
    return value


VALUES = [None, 0, 1, 127, 128, 300, 128 ** 2 - 1, 128 ** 2, 128 ** 8, 128 ** 9 - 1, "", "a", "z", "put", "q" * 127,
          (), (None,), (0, 1), ("put", (0, 0), ()), ((), ((),)), deep(8), (None,) * 127, (1,) * 128, ((5, "x"),) * 3,
          (deep(7), 3)]


def begins_values(numbers):
    """How many of some numbers begin the bytes of some value, by a plain reading of the document."""
    def digits(at, most):
        for place in range(most):
            if at == len(numbers):
                return at, None
            number = numbers[at]
            if place and number == 0 or place == most - 1 and number >= 128:
                return at, False
            at += 1
            if number < 128:
                return at, sum((x & 127) * 128 ** k for k, x in enumerate(numbers[at - place - 1:at]))
        return at, False

    def value(at, tuples):
        if at == len(numbers):
            return at, None
        kind = numbers[at]
        if kind > 3 or kind == 3 and not tuples:
            return at, False
        at += 1
        if kind == 0:
            return at, True
        if kind == 1:
            at, told = digits(at, 9)
            return at, True if told is not None and told is not False else told
        if kind == 2:
            if at == len(numbers) or numbers[at] > 127:
                return at, None if at == len(numbers) else False
            for _ in range(numbers[at]):
                at += 1
                if at == len(numbers) or not 97 <= numbers[at] <= 122:
                    return at, None if at == len(numbers) else False
            return at + 1, True
        at, told = digits(at, 3)
        if told is None or told is False:
            return at, told
        for _ in range(told):
            at, whole = value(at, tuples - 1)
            if whole is not True:
                return at, whole
        return at, True

    at, whole = value(0, 8)
    return at, whole is True and at == len(numbers)


class Values(unittest.TestCase):

    def test_example(self):
        self.assertEqual(value_bytes(value=("put", (0, 0), ())), [3, 3, 2, 3, 112, 117, 116, 3, 2, 1, 0, 1, 0, 3, 0])
        self.assertEqual(value_bytes(300), [1, 172, 2])
        refused(self, BadBytes(2), value_of, [1, 172, 0])

    def test_bytes(self):
        self.assertEqual(value_bytes(None), [0])
        self.assertEqual(value_bytes(0), [1, 0])
        self.assertEqual(value_bytes(127), [1, 127])
        self.assertEqual(value_bytes(128), [1, 128, 1])
        self.assertEqual(value_bytes(128 ** 9 - 1), [1] + [255] * 8 + [127])
        self.assertEqual(value_bytes("az"), [2, 2, 97, 122])
        self.assertEqual(value_bytes(((),)), [3, 1, 3, 0])
        self.assertEqual(value_bytes((None,) * 128), [3, 128, 1] + [0] * 128)

    def test_there_and_back(self):
        for value in VALUES:
            numbers = value_bytes(value)
            self.assertEqual(value_of(numbers=numbers), value)
            self.assertIs(type(value_of(tuple(numbers))), type(value))
        for one, other in itertools.combinations(VALUES, 2):
            first, second = value_bytes(one), value_bytes(other)
            size = min(len(first), len(second))
            self.assertNotEqual(first[:size], second[:size])

    def test_no_values(self):
        for thing in [True, False, -1, 128 ** 9, 1.0, b"a", [], [0], {}, "A", "a1", "a b", "q" * 128, "\xe4", (True,),
                      ([],), ("A",), (-1,), deep(9), (deep(8),), object(), int, ((128 ** 9,),), (1.0,)]:
            refused(self, BadValue("none"), value_bytes, thing)
            refused(self, BadValue("none"), record, thing)
            refused(self, BadValue("none"), log_of, [None, thing])
        refused(self, BadValue("none"), value_bytes, (None,) * 128 ** 3)

    def test_a_tuple_of_very_many(self):
        value = (None,) * (128 ** 3 - 1)
        numbers = value_bytes(value)
        self.assertEqual(numbers[:4], [3, 255, 255, 127])
        self.assertEqual(value_of(numbers), value)

    def test_no_bytes(self):
        for thing in ODD_VALUES:
            if not isinstance(thing, (list, tuple)) or any(type(x) is not int for x in thing):
                refused(self, BadBytes(None), value_of, thing)
                refused(self, BadBytes(None), read_log, thing)
                refused(self, BadBytes(None), live_of, thing)
                refused(self, BadBytes(None), grown_log, thing, None)
        for thing in ([256], [-1], [True], [0, 0, 300], [1.0], b"\x00", range(3)):
            refused(self, BadBytes(None), value_of, thing)

    def test_places(self):
        for numbers, place in [([], 0), ([4], 0), ([0, 0], 1), ([1], 1), ([1, 128], 2), ([1, 128, 0], 2),
                               ([1] + [128] * 8 + [128], 9), ([1] + [128] * 8, 9), ([2, 128], 1), ([2, 1], 2),
                               ([2, 1, 96], 2), ([2, 1, 123], 2), ([2, 1, 97, 97], 3), ([3, 1], 2), ([3, 128, 0], 2),
                               ([3, 128, 128, 128], 3), ([3, 255, 255, 127], 4), ([3, 2, 0], 3), ([3, 1] * 8 + [0], None),
                               ([3, 1] * 8 + [3], 16), ([3, 1] * 7 + [3, 0], None)]:
            if place is None:
                self.assertEqual(begins_values(numbers), (len(numbers), True))
                value_of(numbers)
            else:
                self.assertEqual(begins_values(numbers), (place, False))
                refused(self, BadBytes(place), value_of, numbers)

    def test_bent_bytes(self):
        chance = random.Random(1)
        for value in VALUES:
            numbers = value_bytes(value)
            for cut in range(0, len(numbers), 1 + len(numbers) // 20):
                refused(self, BadBytes(cut), value_of, numbers[:cut])
            for _ in range(60):
                bent = list(numbers)
                bent[chance.randrange(len(bent))] = chance.choice([0, 1, 2, 3, 4, 97, 127, 128, 129, 255])
                place, whole = begins_values(bent)
                if whole:
                    self.assertEqual(value_bytes(value_of(bent)), bent)
                else:
                    refused(self, BadBytes(place), value_of, bent)


def is_record(numbers):
    """Whether numbers are the record of a value, by the document."""
    if len(numbers) < 12:
        return False
    size = int.from_bytes(bytes(numbers[:4]), "big")
    inner = numbers[8:-4]
    sums = [sum(inner) % 65521, sum((k + 1) * x for k, x in enumerate(inner)) % 65521]
    told = [x for number in sums for x in number.to_bytes(2, "big")]
    return (len(inner) == size and numbers[4:8] == [255 - x for x in numbers[:4]] and numbers[-4:] == told
            and begins_values(inner)[1])


class Logs(unittest.TestCase):

    def test_example(self):
        numbers = record(value=("put", (0, 0), ()))
        self.assertEqual(numbers[:8], [0, 0, 0, 15, 255, 255, 255, 240])
        self.assertEqual(numbers[-4:-2], [1, 110])
        self.assertTrue(is_record(numbers))

    def test_records(self):
        for value in VALUES:
            numbers = record(value)
            self.assertTrue(is_record(numbers))
            self.assertEqual(numbers[8:-4], value_bytes(value))
            self.assertEqual(read_log(numbers=numbers), ([value], len(numbers)))

    def test_great_sums(self):
        value = ("z" * 127,) * 100
        inner = value_bytes(value)
        self.assertGreater(sum(inner), 65521)
        self.assertTrue(is_record(record(value)))
        self.assertEqual(read_log(record(value)), ([value], len(record(value))))

    def test_cut_anywhere(self):
        log = log_of(values=VALUES[:14])
        self.assertEqual(log, log_of(tuple(VALUES[:14])))
        ends = [len(log_of(VALUES[:k])) for k in range(15)]
        for cut in range(len(log) + 1):
            whole = max(k for k in range(15) if ends[k] <= cut)
            self.assertEqual(read_log(log[:cut]), (VALUES[:whole], ends[whole]))
        self.assertEqual(read_log([]), ([], 0))
        self.assertEqual(log_of([]), [])

    def test_one_byte_changed(self):
        values = [("a", 5), None, (7, ("b",), 300)]
        log = log_of(values)
        ends = [len(log_of(values[:k])) for k in range(4)]
        for place in range(len(log)):
            ahead = max(k for k in range(4) if ends[k] <= place)
            for number in range(256):
                if number != log[place]:
                    bent = log[:place] + [number] + log[place + 1:]
                    self.assertEqual(read_log(bent), (values[:ahead], ends[ahead]))

    def test_two_bytes_changed(self):
        chance = random.Random(2)
        for value in (("a", 5), (7, 300), "zz"):
            numbers = record(value)
            for one, other in itertools.combinations(range(8, len(numbers)), 2):
                for _ in range(12):
                    bent = list(numbers)
                    bent[one] = chance.randrange(256)
                    bent[other] = (bent[other] + numbers[one] - bent[one]) % 256 if chance.random() < 0.5 \
                        else chance.randrange(256)
                    if bent != numbers:
                        self.assertEqual(read_log(bent), ([], 0))
                        self.assertFalse(is_record(bent))

    def test_what_is_no_record(self):
        numbers = record(5)
        inner = [1, 200, 0]
        head = [0, 0, 0, 3, 255, 255, 255, 252]
        sums = [x for number in (201, 401) for x in number.to_bytes(2, "big")]
        self.assertEqual(read_log(head + inner + sums), ([], 0))
        self.assertEqual(read_log(numbers + head + inner + sums + numbers), ([5], len(numbers)))
        self.assertEqual(read_log(numbers + [255] * 30), ([5], len(numbers)))
        # Bytes that are those of a value and more are no record.
        inner = [0, 0]
        self.assertEqual(read_log([0, 0, 0, 2, 255, 255, 255, 253, 0, 0, 0, 0, 0, 0]), ([], 0))

    def test_wrong_inputs(self):
        for thing in [None, 0, "a", {}, 1.0, object()]:
            refused(self, BadValue("none"), log_of, thing)
        self.assertEqual(log_of([[]][:0]), [])


DEEDS = [("put", (0, 0, 0), ()), ("ask", ("finite",)), ("letter", (0, 0)), ("ask", ("alike", (0,), (1, 1))),
         ("put", (2,), (1,)), ("drop", 0), ("unask", 0), ("unletter",), ("ask", ("order", (0,), 10))]


def lived(group, deeds):
    live = Live(group)
    for deed in deeds:
        live.do(deed)
    return live


class Histories(unittest.TestCase):

    def claim_deed(self):
        claim = three_claim()
        told = [(one.letters, one.ways, one.ends) for one in (claim.words,) + claim.nears]
        return ("claim", told[0], tuple(told[1:]), (((0, (0, 0, 0), ()),),))

    def test_log_of_a_live(self):
        live = lived(Group((1, 0), []), DEEDS)
        told = live_log(live=live)
        self.assertEqual(told, log_of([("group", (1, 0), ())] + DEEDS))
        self.assertEqual(live_of(numbers=told), (live, len(told)))
        live.undo()
        self.assertEqual(live_log(live), log_of([("group", (1, 0), ())] + DEEDS[:-1]))
        self.assertEqual(live_log(Live(THREE)), record(("group", (1, 0), (((0, 0, 0), ()),))))

    def test_cut_and_grown(self):
        deeds = [self.claim_deed(), ("ask", ("alike", (0,), (1, 1))), ("letter", (0,)), ("swap", 0, ())][:3]
        for group, told in ((Group((1, 0), []), DEEDS), (THREE, deeds)):
            values = [("group", group.back, group.rules)] + told
            log = live_log(lived(group, told))
            ends = [len(log_of(values[:k])) for k in range(len(values) + 1)]
            step = 1 if len(log) < 600 else 7
            for cut in list(range(0, len(log) + 1, step)) + [len(log)]:
                if cut < ends[1]:
                    refused(self, BadLog("none"), live_of, log[:cut])
                    refused(self, BadLog("none"), grown_log, log[:cut], ("unletter",))
                    continue
                whole = max(k for k in range(len(ends)) if ends[k] <= cut)
                live, length = live_of(log[:cut])
                self.assertEqual((live, length), (lived(group, told[:whole - 1]), ends[whole]))
                self.assertEqual(live.answers(), lived(group, told[:whole - 1]).answers())
                grown = grown_log(numbers=log[:cut], deed=("ask", ("normal", (0,))))
                live.do(("ask", ("normal", (0,))))
                self.assertEqual(grown, live_log(live))
                self.assertEqual(live_of(grown), (live, len(grown)))

    def test_deeds_that_cannot_be_done(self):
        first = ("group", (1, 0), ())
        good = [first, ("put", (0, 0), ())]
        for wrong in (("unletter",), ("drop", 1), ("put", (5,), ()), ("odd",), 7, None, first, ("unask", 0),
                      ("put", (0, 0))):
            log = log_of(good + [wrong, ("put", (), ())])
            live, length = live_of(log)
            self.assertEqual(live, lived(Group((1, 0), []), good[1:]))
            self.assertEqual(length, len(log_of(good)))
            self.assertEqual(grown_log(log, ("drop", 0)), log_of(good + [("drop", 0)]))

    def test_no_group_first(self):
        for first in (None, 5, "group", (), ("group",), ("group", (1, 0)), ("groups", (1, 0), ()), ("group", (1, 1), ()),
                      ("group", (1, 0), ((0, 0),)), ("group", (1, 0), ((), ())), (0, (1, 0), ()), ("group", (1, 0), None),
                      ("group", (1, 0), (), ()), ("group", (1, 0), (((2,), ()),))):
            refused(self, BadLog("none"), live_of, log_of([first]))
            refused(self, BadLog("none"), grown_log, log_of([first]), None)
        refused(self, BadLog("none"), live_of, [])

    def test_wrong_inputs(self):
        for thing in ODD_VALUES:
            refused(self, BadLive("none"), live_log, thing)
        log = live_log(Live(THREE))
        for thing in ODD_VALUES:
            refused(self, BadDeed("none"), grown_log, log, thing)
        refused(self, NotLet("place"), grown_log, log, ("drop", 1))
        refused(self, NotLet("letters"), grown_log, log, ("unletter",))
        before = list(log)
        grown_log(log, ("drop", 0))
        self.assertEqual(log, before)

    def test_a_deed_that_is_no_value(self):
        # A road of so many steps that it is no value stands in a deed all the same.
        road = ((0, (), (0, 1)), (0, (0, 1), ())) * (128 ** 3 // 2)
        live = Live(Group((1, 0), [((0, 1), ()), ((), ())]))
        live.do(("swap", 0, ((0, (0, 1), ()),)))
        live.do(("swap", 0, road))
        refused(self, BadValue("none"), live_log, live)
        live.undo()
        self.assertEqual(live_of(live_log(live))[0].deeds(), live.deeds())


if __name__ == "__main__":
    unittest.main()
