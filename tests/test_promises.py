"""Point 1 over the whole program, and the interface: what is handed in, what is told."""

import copy
import importlib
import inspect
import unittest

from endshare.layouts import filled, laid, spread
from endshare.notes import read_fields, written
from endshare.records import led, look, put, unlike
from endshare.weaving import ends, played, torn, widened

FIELDS = [("speed", 4), ("mode", 1), ("gear", 2)]
ONE = ("great", 2, 2, "up")
OTHER = ("small", 4, 1, "down")
ROOM = 8

INTERFACE = {
    "endshare.layouts": {
        "laid": ["fields", "hand"],
        "spread": ["fields", "hand", "gaps"],
        "filled": ["fields", "one", "other"],
    },
    "endshare.records": {
        "put": ["fields", "hand", "memory", "name", "number"],
        "led": ["fields", "one", "other", "memory"],
        "look": ["fields", "hand", "memory", "name"],
        "unlike": ["fields", "one", "other"],
    },
    "endshare.weaving": {
        "played": ["fields", "hands", "programs", "weaving"],
        "ends": ["fields", "hands", "programs"],
        "torn": ["fields", "hands", "programs"],
        "widened": ["fields", "hands", "programs"],
    },
    "endshare.notes": {"written": ["fields"], "read_fields": ["text"]},
}


def programs():
    return (
        [("put", "speed", 1234), ("look", "gear"), ("look", "speed")],
        [("look", "speed"), ("put", "gear", 56), ("look", "mode")],
    )


def calls():
    """Tell each function with what is handed to it."""
    fields, hands = list(FIELDS), (ONE, OTHER)
    return (
        (laid, [fields, ONE]),
        (spread, [fields, OTHER, [1, 0, 2]]),
        (filled, [fields, ONE, OTHER]),
        (put, [fields, ONE, [1, 2, 3, 4, 5, 6, 7, 8], "gear", 90]),
        (led, [fields, ONE, OTHER, [1, 2, 3, 4, 5, 6, 7, 8]]),
        (look, [fields, ONE, [1, 2, 3, 4, 5, 6, 7, 8], "speed"]),
        (unlike, [fields, ONE, OTHER]),
        (played, [fields, hands, programs(), [0, 1, 0, 1, 1, 1, 0, 0, 0]]),
        (ends, [fields, hands, programs()]),
        (torn, [fields, hands, programs()]),
        (widened, [fields, hands, programs()]),
        (written, [fields]),
        (read_fields, ["speed:4 mode:1"]),
    )


def lists_in(told):
    """Tell all lists in what is told, or in what is handed in."""
    if isinstance(told, (list, tuple)):
        inner = [found for part in told for found in lists_in(part)]
        return inner + [told] if isinstance(told, list) else inner
    return []


def spoil(told):
    for found in lists_in(told):
        found.append(("more", 99))
        found.reverse()
        found[-1] = -7


class HandedIn(unittest.TestCase):
    def test_it_stays_as_it_was(self):
        for call, handed in calls():
            with self.subTest(call=call.__name__):
                before = copy.deepcopy(handed)
                call(*handed)
                self.assertEqual(handed, before)

    def test_it_stays_as_it_was_where_it_is_refused(self):
        bad = ([("look", "speed")], [("look", "no")])
        for call, handed in (
            (spread, [list(FIELDS), ONE, [0, 10, 0]]),
            (put, [list(FIELDS), ONE, [1] * ROOM, "mode", 10]),
            (led, [list(FIELDS), ONE, OTHER, [1] * 9]),
            (played, [list(FIELDS), (ONE, OTHER), bad, [0, 1]]),
            (widened, [list(FIELDS), (ONE, OTHER), bad]),
        ):
            with self.subTest(call=call.__name__):
                before = copy.deepcopy(handed)
                self.assertRaises(ValueError, call, *handed)
                self.assertEqual(handed, before)

    def test_it_may_be_changed_behind(self):
        for call, handed in calls():
            with self.subTest(call=call.__name__):
                own = copy.deepcopy(handed)
                told = call(*own)
                before = copy.deepcopy(told)
                spoil(own)
                self.assertEqual(told, before)
                self.assertEqual(call(*handed), before)

    def test_each_refusal_is_told_anew(self):
        raised = []
        for _ in range(2):
            try:
                laid([], ONE)
            except ValueError as error:
                raised.append(error)
        self.assertIsNot(raised[0], raised[1])
        raised[0].number = 5
        self.assertEqual(raised[1].number, 0)


class Told(unittest.TestCase):
    def test_it_may_be_changed(self):
        for call, handed in calls():
            with self.subTest(call=call.__name__):
                told = call(*handed)
                before, kept = copy.deepcopy(told), copy.deepcopy(handed)
                spoil(told)
                self.assertEqual(handed, kept)
                self.assertEqual(call(*handed), before)

    def test_no_list_is_told_in_two_places(self):
        for call, handed in calls():
            with self.subTest(call=call.__name__):
                lists = lists_in(call(*handed))
                self.assertEqual(len({id(found) for found in lists}), len(lists))

    def test_the_same_question_has_the_same_answer(self):
        for call, handed in calls():
            with self.subTest(call=call.__name__):
                first = call(*handed)
                self.assertEqual(call(*handed), first)
                self.assertEqual(call(*copy.deepcopy(handed)), first)
                for other, asked in calls():
                    other(*asked)
                self.assertEqual(call(*handed), first)

    def test_empty_lists_are_not_shared(self):
        told = played(FIELDS, (ONE, OTHER), ([], []), [])
        told[0].append(1)
        self.assertEqual(told[1], [])
        self.assertEqual(played(FIELDS, (ONE, OTHER), ([], []), []), ([], [], [0] * ROOM))


class Kinds(unittest.TestCase):
    def check_numbers(self, told):
        self.assertIs(type(told), list)
        self.assertTrue(all(type(number) is int for number in told))

    def test_weaving(self):
        for told in [played(*dict(calls())[played])] + ends(*dict(calls())[ends]):
            self.assertIs(type(told), tuple)
            self.assertEqual(len(told), 3)
            for part in told:
                self.check_numbers(part)
        self.assertIs(type(ends(*dict(calls())[ends])), list)
        self.check_numbers(torn(*dict(calls())[torn]))
        self.assertIs(type(widened(*dict(calls())[widened])), tuple)
        self.check_numbers(list(widened(*dict(calls())[widened])))

    def test_records(self):
        self.check_numbers(put(*dict(calls())[put]))
        self.check_numbers(led(*dict(calls())[led]))
        self.assertIs(type(look(*dict(calls())[look])), int)
        name, memory = unlike(*dict(calls())[unlike])
        self.assertIs(type(name), str)
        self.check_numbers(memory)


class Interface(unittest.TestCase):
    def test_names_and_arguments(self):
        for path, functions in INTERFACE.items():
            module = importlib.import_module(path)
            for name, names in functions.items():
                with self.subTest(function=f"{path}.{name}"):
                    function = getattr(module, name)
                    self.assertTrue(inspect.isfunction(function))
                    self.assertEqual(list(inspect.signature(function).parameters), names)
                    self.assertEqual(function.__module__, path)

    def test_arguments_by_name(self):
        for call, handed in calls():
            names = INTERFACE[call.__module__][call.__name__]
            self.assertEqual(call(**dict(zip(names, handed))), call(*handed))


if __name__ == "__main__":
    unittest.main()
