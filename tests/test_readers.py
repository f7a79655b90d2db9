import random
import unittest

from samples import LAST, LATE, LATEST, LOST, LOST_LATER, PLAIN, large_writers, run, small_writers, some_writers
from wroteback.errors import BadWritten, Full, NoRow
from wroteback.reading import count_rows, stands_after, sure
from wroteback.readers import Reader
from wroteback.writers import Writer

NO_LETTERS = [-1, 4, 60, None, True, False, "0", "", (), (0,), [0], {}, {0: 0}]


def told(writer, written):
    """A reader that has been told this."""
    reader = Reader(writer)
    for letter in written:
        reader.tell(letter)
    return reader


def state(reader):
    return [reader.writer, reader.written, reader.sure(), reader.stands(), len(reader)]


class Readers(unittest.TestCase):
    def test_example(self):
        reader = Reader(LATE)
        self.assertEqual([reader.tell(0), reader.stands(), reader.tell(1)], [(), [0, 1], (1,)])
        self.assertEqual([reader.sure(), reader.tell(0), reader.undo()], [(1,), (0,), True])
        self.assertEqual([reader.written, len(reader)], [(0, 1), 2])
        with self.assertRaises(NoRow):
            reader.tell(2)

    def test_told_nothing(self):
        for writer in small_writers()[::50] + large_writers():
            reader = Reader(writer)
            self.assertEqual(state(reader), [writer, (), (), [0], 0])
            self.assertIs(reader.undo(), False)
            self.assertEqual(state(reader), [writer, (), (), [0], 0])

    def test_it_tells_what_reading_tells(self):
        chance = random.Random(8)
        refused = 0
        for writer in small_writers()[::7] + large_writers() + some_writers(9, 30, 6, 3):
            reader = Reader(writer)
            written = ()
            for _ in range(25):
                letter = chance.randrange(4)
                put = written + (letter,)
                if count_rows(writer, put) == 0:
                    with self.assertRaises(NoRow):
                        reader.tell(letter)
                    refused += 1
                else:
                    before = sure(writer, written)
                    self.assertEqual(reader.tell(letter), sure(writer, put)[len(before):])
                    written = put
                self.assertEqual(state(reader), [
                    writer, written, sure(writer, written), stands_after(writer, written), len(written),
                ])
        self.assertGreater(refused, 100)

    def test_all_that_it_told_is_what_is_sure(self):
        for writer in small_writers()[::7] + large_writers():
            row = tuple((at * at + at // 3) % writer.letters for at in range(30))
            reader = Reader(writer)
            letters = ()
            for letter in run(writer, 0, row)[0]:
                letters += reader.tell(letter)
                self.assertEqual(letters, reader.sure())
            self.assertEqual(letters, row[:len(letters)])

    def test_several_letters_sure_at_once(self):
        # The stands 1 and 2 write alike until one of them writes 1 or 2.
        writer = Writer((((1, 0), (2, 0)), ((1, 0), (1, 1)), ((2, 0), (2, 2))))
        reader = Reader(writer)
        self.assertEqual([reader.tell(0), reader.tell(0), reader.tell(0)], [(), (), ()])
        self.assertEqual([reader.stands(), reader.tell(2)], [[1, 2], (1, 0, 0, 1)])
        self.assertIs(reader.undo(), True)
        self.assertEqual([reader.sure(), reader.tell(1)], [(), (0, 0, 0, 1)])

    def test_nothing_is_ever_sure(self):
        reader = told(LOST, (0,) * 60)
        self.assertEqual([reader.sure(), reader.stands(), len(reader)], [(), [0], 60])

    def test_properties_and_methods_of_the_class(self):
        self.assertIsInstance(Reader.writer, property)
        self.assertIsInstance(Reader.written, property)
        self.assertLessEqual({"tell", "sure", "stands", "undo", "copy", "__len__"}, set(vars(Reader)))

    def test_kinds_as_listed(self):
        reader = Reader(LATE)
        self.assertIs(reader.writer, LATE)
        for value in (reader.written, reader.tell(0), reader.tell(1), reader.sure(), reader.written):
            self.assertIs(type(value), tuple)
        self.assertIs(type(reader.stands()), list)
        self.assertIs(type(reader.copy()), Reader)

    def test_lists_are_new(self):
        reader = told(LATE, (0,))
        reader.stands().append(7)
        self.assertEqual(reader.stands(), [0, 1])

    def test_equal_to_nothing_of_another_kind(self):
        reader = told(LATE, (0,))
        for other in (None, True, False, 0, 1, "", (), (0,), [0], {}, LATE, object()):
            self.assertFalse(reader == other)
            self.assertFalse(other == reader)
            self.assertTrue(reader != other)


class Refused(unittest.TestCase):
    def assert_refused(self, reader, letter, kind):
        before = state(reader)
        with self.assertRaises(kind) as caught:
            reader.tell(letter)
        self.assertEqual(state(reader), before)
        return caught.exception

    def test_no_written_letters(self):
        for writer, written in ((LATE, ()), (LATE, (0, 1, 0)), (LOST, (0,) * 59), (LOST, (0,) * 60)):
            reader = told(writer, written)
            for letter in NO_LETTERS:
                error = self.assert_refused(reader, letter, BadWritten)
                self.assertEqual(error.index, len(written), letter)
                self.assertIs(type(error.index), int)

    def test_written_letters_0_and_3(self):
        writer = Writer((((0, 0), (0, 3)),))
        self.assertEqual(told(writer, (0, 3, 3)).sure(), (0, 1, 1))
        self.assert_refused(Reader(PLAIN), 3, NoRow)
        self.assert_refused(Reader(writer), 4, BadWritten)
        self.assert_refused(Reader(writer), -1, BadWritten)

    def test_told_60_and_one_more(self):
        for writer in (PLAIN, LATE, LAST, LOST_LATER, LATEST):
            written = run(writer, 0, (0,) * 60)[0]
            reader = told(writer, written[:59])
            reader.tell(written[59])
            self.assertEqual([len(reader), reader.written], [60, written])
            for letter in range(4):
                self.assert_refused(reader, letter, Full)
            self.assertIs(reader.undo(), True)
            self.assertEqual(len(reader), 59)
            reader.tell(written[59])
            self.assertEqual(len(reader), 60)

    def test_several_things_wrong_at_once(self):
        full = told(LATE, (0,) * 60)
        self.assertEqual(self.assert_refused(full, 4, BadWritten).index, 60)
        self.assertEqual(self.assert_refused(full, True, BadWritten).index, 60)
        self.assert_refused(full, 3, Full)

    def test_no_row(self):
        reader = Reader(LATE)
        for letter in (1, 2, 3):
            self.assert_refused(reader, letter, NoRow)
        reader.tell(0)
        for letter in (2, 3):
            self.assert_refused(reader, letter, NoRow)
        self.assertEqual(reader.tell(1), (1,))

    def test_what_is_refused_is_not_undone(self):
        reader = told(LATE, (0,))
        self.assert_refused(reader, 2, NoRow)
        self.assert_refused(reader, None, BadWritten)
        self.assertEqual([reader.undo(), reader.undo()], [True, False])


class UndoAndCopy(unittest.TestCase):
    def test_undone_to_nothing(self):
        for writer in (PLAIN, LATE, LAST, LOST_LATER, LATEST):
            written = run(writer, 0, (1, 0, 0, 1, 1, 0))[0]
            reader = told(writer, written)
            for many in range(5, -1, -1):
                self.assertIs(reader.undo(), True)
                self.assertEqual(state(reader), state(told(writer, written[:many])))
            self.assertIs(reader.undo(), False)
            self.assertEqual(state(reader), state(Reader(writer)))

    def test_told_again_what_was_undone(self):
        reader = Reader(LATE)
        self.assertEqual([reader.tell(0), reader.tell(0)], [(), (0,)])
        self.assertEqual([reader.undo(), reader.tell(1)], [True, (1,)])
        self.assertEqual(reader.written, (0, 1))

    def test_a_copy_stands_as_its_reader(self):
        for written in ((), (0,), (0, 1, 1, 0), (0,) * 60):
            reader = told(LATE, written)
            twin = reader.copy()
            self.assertEqual(state(twin), state(reader))
            self.assertIsNot(twin, reader)

    def test_a_copy_goes_on_by_itself(self):
        reader = told(LATE, (0, 1))
        before = state(reader)
        twin = reader.copy()
        self.assertEqual(twin.tell(0), (0,))
        self.assertEqual(state(reader), before)
        self.assertEqual([twin.undo(), twin.undo(), twin.undo(), twin.undo()], [True, True, True, False])
        self.assertEqual(state(reader), before)
        twin = reader.copy()
        self.assertEqual([reader.tell(1), reader.undo(), reader.undo()], [(1,), True, True])
        self.assertEqual(state(twin), before)
        self.assertEqual(state(reader), state(told(LATE, (0,))))

    def test_a_copy_of_a_copy(self):
        reader = told(LAST, (0, 0))
        twin = reader.copy().copy()
        twin.tell(1)
        self.assertEqual([reader.written, twin.written], [(0, 0), (0, 0, 1)])

    def test_two_readers_of_one_writer(self):
        one, other = Reader(LATE), Reader(LATE)
        one.tell(0)
        self.assertEqual([len(one), len(other)], [1, 0])


if __name__ == "__main__":
    unittest.main()
