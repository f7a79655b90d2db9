"""What the document promises over the whole program, and its interface."""

import copy
import importlib
import inspect
import itertools
import unittest

from samples import LAST, LATE, LATEST, LOST, LOST_LATER, PLAIN, some_writers
from wroteback import census, errors, judging, likes, reading, readers, sets, texts, told, writers, wrong
from wroteback.readers import Reader
from wroteback.writers import Writer

# For each function the names of its arguments.
FUNCTIONS = {
    "writers": {"write_row": "writer row", "stands_of": "writer row"},
    "judging": {
        "delay": "writer", "word": "writer", "ranks": "writer", "shows": "writer bound value",
        "alike": "writer stand many", "lost_rows": "writer",
    },
    "reading": {
        "count_rows": "writer written", "stands_after": "writer written", "sure": "writer written",
        "row_to": "writer written stand", "back": "writer",
    },
    "census": {"census": "stands written"},
    "texts": {"write": "writer", "read": "text"},
    "likes": {"first_unlike": "one other", "smallest": "writer", "joined": "one other"},
    "sets": {"least_never": "writer letters", "count_written": "writer many", "first_more": "one other"},
    "wrong": {
        "fewest_wrong": "writer seen", "mended": "writer seen", "gap": "writer many", "whole_gap": "writer",
        "letters_for": "writer wrong",
    },
    "told": {"tables_for": "stands seen", "sure_next": "stands seen row"},
}
METHODS = {
    Writer: {"__init__": "self table", "__len__": "self", "__eq__": "self other"},
    Reader: {
        "__init__": "self writer", "__len__": "self", "tell": "self letter", "sure": "self", "stands": "self",
        "undo": "self", "copy": "self",
    },
}
SEEN = [((1, 1), (0, 1)), ((0,), (0,))]
NEEDS_12 = Writer((((1, 1), (1, 0)), ((2, 1), (0, 1)), ((2, 1), (0, 0))))
# Calls that return something.
CALLS = [
    (writers.Writer, [PLAIN.table]), (writers.write_row, [LATE, (1, 0, 0, 1)]), (writers.stands_of, [LATE, (1, 0)]),
    (judging.delay, [LATEST]), (judging.word, [LAST]), (judging.ranks, [LATEST]),
    (judging.shows, [LATE, 1, [((0, 1), 0)]]), (judging.alike, [LAST, 0, 3]), (judging.lost_rows, [LOST_LATER]),
    (reading.count_rows, [LATE, (0, 1, 0)]), (reading.stands_after, [LATE, (0, 1)]), (reading.sure, [LATE, (0, 1)]),
    (reading.row_to, [LATE, (0, 1, 0), 1]), (reading.back, [LATE]), (census.census, [2, 2]),
    (readers.Reader, [LATE]), (texts.write, [LATEST]), (texts.read, ["stand 0:0 1:0\nstand 0:1 1:1"]),
    (likes.first_unlike, [LATE, LAST]), (likes.first_unlike, [LATE, LATE]), (likes.smallest, [LAST]),
    (likes.joined, [LATE, LATE]), (sets.least_never, [LATE, 2]), (sets.count_written, [LATEST, 40]),
    (sets.first_more, [PLAIN, LATE]), (wrong.fewest_wrong, [LATE, (1, 0, 1)]), (wrong.mended, [LATE, (1, 0, 1)]),
    (wrong.gap, [LATE, 3]), (wrong.whole_gap, [LATE]), (wrong.letters_for, [LATE, 0]),
    (told.tables_for, [2, SEEN]), (told.sure_next, [2, SEEN, (1, 1, 1)]), (told.tables_for, [1, SEEN]),
]
# Calls that raise an error, several arguments of many being wrong at once.
WRONG_CALLS = [
    (writers.Writer, [[[0, 0]]], errors.BadTable), (writers.write_row, [LATE, [0, 2]], errors.BadRow),
    (writers.stands_of, [LATE, (0, True)], errors.BadRow), (judging.shows, [LATE, 61, None], errors.BadSize),
    (judging.alike, [LATE, 2, 0], errors.BadStand), (judging.alike, [LATE, 1, 0], errors.BadSize),
    (reading.count_rows, [LATE, [0]], errors.BadWritten), (reading.stands_after, [LATE, (4,)], errors.BadWritten),
    (reading.sure, [LATE, (True,)], errors.BadWritten), (reading.row_to, [LATE, (4,), 2], errors.BadWritten),
    (reading.row_to, [LATE, (0,), 2], errors.BadStand), (reading.back, [LAST], errors.Late),
    (census.census, [3, 3], errors.BadSize), (texts.read, ["stand"], errors.InvalidText),
    (likes.first_unlike, [LATE, Writer((((0, 0),) * 3,))], errors.NotComparable),
    (likes.joined, [LATEST, LATE], errors.NotFitting),
    (likes.joined, [NEEDS_12, Writer((
        ((2, 0), (3, 0)), ((3, 1), (0, 1)), ((0, 0), (1, 1)), ((3, 1), (2, 1)),
    ))], errors.TooMany),
    (sets.least_never, [LATE, 5], errors.BadSize), (sets.count_written, [LATE, -1], errors.BadSize),
    (wrong.fewest_wrong, [LATE, [0, 4]], errors.BadWritten), (wrong.mended, [LATE, (0, False)], errors.BadWritten),
    (wrong.gap, [LATE, 0], errors.BadSize), (wrong.letters_for, [LOST, 11], errors.BadSize),
    (told.tables_for, [0, [None]], errors.BadSize), (told.tables_for, [2, [None, [0]]], errors.BadSeen),
    (told.sure_next, [3, [None], [None]], errors.BadSize), (told.sure_next, [1, [None], [None]], errors.BadSeen),
    (told.sure_next, [1, SEEN, [0]], errors.BadRow),
]
# Calls in which one place is an integer: True and False must be refused there as others are.
INTEGER_PLACES = [
    (lambda value: Writer((((value, 0), (0, 0)), ((0, 0), (0, 0)))), errors.BadTable),
    (lambda value: Writer((((0, value), (0, 0)),)), errors.BadTable),
    (lambda value: writers.write_row(LATE, (0, value)), errors.BadRow),
    (lambda value: writers.stands_of(LATE, (value,)), errors.BadRow),
    (lambda value: judging.shows(LATE, value, []), errors.BadSize),
    (lambda value: judging.alike(LATE, value, 1), errors.BadStand),
    (lambda value: judging.alike(LATE, 0, value), errors.BadSize),
    (lambda value: reading.count_rows(LATE, (value,)), errors.BadWritten),
    (lambda value: reading.stands_after(LATE, (0, value)), errors.BadWritten),
    (lambda value: reading.sure(LATE, (value, 0)), errors.BadWritten),
    (lambda value: reading.row_to(LATE, (value,), 0), errors.BadWritten),
    (lambda value: reading.row_to(LATE, (0,), value), errors.BadStand),
    (lambda value: census.census(value, 1), errors.BadSize),
    (lambda value: census.census(1, value), errors.BadSize),
    (lambda value: Reader(LATE).tell(value), errors.BadWritten),
    (lambda value: sets.least_never(LATE, value), errors.BadSize),
    (lambda value: sets.count_written(LATE, value), errors.BadSize),
    (lambda value: wrong.fewest_wrong(LATE, (value,)), errors.BadWritten),
    (lambda value: wrong.mended(LATE, (0, value)), errors.BadWritten),
    (lambda value: wrong.gap(LATE, value), errors.BadSize),
    (lambda value: wrong.letters_for(LATE, value), errors.BadSize),
    (lambda value: told.tables_for(value, SEEN), errors.BadSize),
    (lambda value: told.tables_for(1, [((value,), (0,))]), errors.BadSeen),
    (lambda value: told.tables_for(1, [((0,), (value,))]), errors.BadSeen),
    (lambda value: told.sure_next(value, SEEN, ()), errors.BadSize),
    (lambda value: told.sure_next(1, SEEN, (value,)), errors.BadRow),
]


def plain(value):
    """What a value is made of, kinds included, so that values can be compared."""
    if isinstance(value, Writer):
        return ("Writer", plain(value.table), value.letters, len(value))
    if isinstance(value, Reader):
        return ("Reader", plain(value.writer), value.written, value.sure(), value.stands())
    if isinstance(value, (list, tuple)):
        return (type(value).__name__, [plain(thing) for thing in value])
    return (type(value).__name__, value)


class Interface(unittest.TestCase):
    def test_functions(self):
        for name, functions in FUNCTIONS.items():
            module = importlib.import_module(f"wroteback.{name}")
            for listed, arguments in functions.items():
                function = getattr(module, listed)
                self.assertEqual(function.__module__, module.__name__, listed)
                self.assertEqual(list(inspect.signature(function).parameters), arguments.split(), listed)

    def test_methods(self):
        for kind, methods in METHODS.items():
            for listed, arguments in methods.items():
                self.assertIn(listed, vars(kind))
                self.assertEqual(list(inspect.signature(vars(kind)[listed]).parameters), arguments.split(), listed)

    def test_all_arguments_by_name(self):
        for function, arguments in CALLS:
            names = list(inspect.signature(function).parameters)
            named = function(**dict(zip(names, arguments, strict=True)))
            self.assertEqual(plain(named), plain(function(*arguments)))


class WholeProgram(unittest.TestCase):
    def test_repeated_calls_give_equal_results(self):
        for function, arguments in CALLS:
            first = plain(function(*arguments))
            for other, given in CALLS:
                other(*given)
            self.assertEqual(plain(function(*arguments)), first, function)

    def test_arguments_are_not_modified(self):
        for function, arguments in CALLS:
            before = copy.deepcopy(plain(arguments))
            function(*arguments)
            self.assertEqual(plain(arguments), before, function)

    def test_returned_lists_are_new(self):
        lists = 0
        for function, arguments in CALLS:
            result = function(*arguments)
            if isinstance(result, list):
                lists += 1
                before = plain(result)
                self.assertIsNot(function(*arguments), result)
                self.assertFalse(any(result is given for given in arguments))
                result.append(None)
                self.assertEqual(plain(function(*arguments)), before)
        self.assertGreaterEqual(lists, 5)

    def test_a_call_that_raises_changes_nothing(self):
        before = [plain(function(*arguments)) for function, arguments in CALLS]
        for function, arguments, kind in WRONG_CALLS:
            given = copy.deepcopy(plain(arguments))
            for _ in range(2):
                with self.assertRaises(kind) as caught:
                    function(*arguments)
                self.assertIs(type(caught.exception), kind)
                self.assertIsInstance(caught.exception, errors.WriterError)
            self.assertEqual(plain(arguments), given)
        self.assertEqual([plain(function(*arguments)) for function, arguments in CALLS], before)

    def test_true_and_false_are_not_integers(self):
        for call, kind in INTEGER_PLACES:
            for value in (True, False, None, "0", "1", (), (0,), [0], {}, -1):
                with self.assertRaises(kind) as caught:
                    call(value)
                self.assertIs(type(caught.exception), kind, value)

    def test_no_true_or_false_where_integers_are_returned(self):
        found = []

        def look(value):
            if isinstance(value, (list, tuple)):
                for thing in value:
                    look(thing)
            else:
                found.append(value)

        for writer in some_writers(61, 20, 4, 2) + [LATE, LOST, LAST, LATEST]:
            look([
                judging.ranks(writer), judging.delay(writer), sets.least_never(writer, 2),
                sets.count_written(writer, 9), wrong.fewest_wrong(writer, (3, 0)), wrong.mended(writer, (3, 0)),
                wrong.gap(writer, 2), wrong.whole_gap(writer), wrong.letters_for(writer, 0),
                likes.smallest(writer).table, likes.first_unlike(writer, LATE),
            ])
        for value in found:
            self.assertIn(type(value), (int, type(None)))

    def test_an_object_is_equal_to_nothing_of_another_kind(self):
        objects = [LATE, Reader(LATE), None, True, False, 0, 1, 2, "", "LATE", (), LATE.table, [LATE.table], {}]
        for one, other in itertools.product(objects[:2], objects):
            if one is not other:
                self.assertFalse(one == other)
                self.assertFalse(other == one)
                self.assertTrue(one != other)
                self.assertTrue(other != one)

    def test_writers_that_were_made_are_as_good_as_others(self):
        for writer in some_writers(62, 20, 4, 2) + [LATE, LAST]:
            small = likes.smallest(writer)
            twin = Writer(small.table)
            self.assertTrue(small == twin)
            self.assertTrue(texts.read(texts.write(small)) == twin)
            self.assertEqual(judging.ranks(small), judging.ranks(twin))
            self.assertEqual(wrong.gap(small, 9), wrong.gap(twin, 9))
            self.assertIsNone(likes.first_unlike(small, twin))


if __name__ == "__main__":
    unittest.main()
