import unittest

from calling import BEGIN, RUN_JOINS, RUN_LEXICON, RUN_WRITTEN, WRITE, joins, octets, run, words, written
from readingways.book import Book, begin_anew, take_joins, take_words, write_joins
from readingways.readings import answers


def state(book):
    """All that an object holds, as plain values."""
    held = [(word.reading, word.text, word.left, word.right, word.cost) for word in book.words]
    return (held, book.joins.by_itself, book.joins.costs)


def book_of_the_run():
    book = Book()
    take_words(book, octets(RUN_LEXICON))
    take_joins(book, octets(RUN_JOINS))
    return book


class BeginTest(unittest.TestCase):

    def test_answers_0(self):
        self.assertEqual(run(BEGIN), [[0]])

    def test_takes_back_joins_and_what_a_sound_costs(self):
        told = run(joins(RUN_JOINS), WRITE, BEGIN, WRITE)
        self.assertEqual(told, [[3], written(RUN_WRITTEN), [0], written("65535\n")])

    def test_takes_back_all(self):
        book = book_of_the_run()
        self.assertEqual(len(book.words), 4)
        self.assertEqual(begin_anew(book), [0])
        self.assertEqual(state(book), ([], 65535, {}))

    def test_new_object_is_as_after_begin(self):
        self.assertEqual(state(Book()), ([], 65535, {}))
        self.assertEqual(run(WRITE), run(BEGIN, WRITE)[1:])


class KeptTest(unittest.TestCase):

    def test_words_keeps_the_joins(self):
        told = run(joins(RUN_JOINS), words(RUN_LEXICON), WRITE, words(""), WRITE)
        self.assertEqual(told, [[3], [4], written(RUN_WRITTEN), [0], written(RUN_WRITTEN)])

    def test_joins_keeps_the_words(self):
        book = Book()
        take_words(book, octets(RUN_LEXICON))
        before = state(book)[0]
        self.assertEqual(take_joins(book, octets(RUN_JOINS)), [3])
        self.assertEqual(state(book), (before, 40, {(0, 2): 3, (1, 1): 20, (2, 3): 7}))

    def test_words_takes_back_the_words_before(self):
        book = book_of_the_run()
        self.assertEqual(take_words(book, octets("a A 0 0 0\n")), [1])
        self.assertEqual(state(book)[0], [([0x61], [0x41], 0, 0, 0)])
        self.assertEqual(take_words(book, []), [0])
        self.assertEqual(state(book)[0], [])

    def test_write_changes_nothing(self):
        book = book_of_the_run()
        write_joins(book)
        self.assertEqual(state(book), state(book_of_the_run()))


class RefusedTest(unittest.TestCase):

    def test_refused_words_leaves_the_object_as_it_was(self):
        for text, answer in (("x X 0 0 0\nwrong\n", [-2, 1, 1]), ("x X 0 0 0\ny Y 256 0 0\n", [-2, 1, 2]),
                             ("x X 0 0 0\nx X 0 0 0\n", [-2, 1, 3]), ("x X 0 0 0", [-2, 0, 1]),
                             ("".join(f"{number} x 0 0 0\n" for number in range(129)), [-2, 128, 4]),
                             ("x" * 65537, [-1])):
            book = book_of_the_run()
            self.assertEqual(take_words(book, octets(text)), answer)
            self.assertEqual(state(book), state(book_of_the_run()))

    def test_refused_joins_leaves_the_object_as_it_was(self):
        for text, answer in (("", [-2, 0, 1]), ("7\n1 1 9\nwrong\n", [-2, 2, 1]), ("7\n1 1 9\n1 256 0\n", [-2, 2, 2]),
                             ("7\n1 1 0\n1 1 9\n", [-2, 2, 3]), ("70000\n", [-2, 0, 2]), ("7", [-2, 0, 1]),
                             ("1" * 65537, [-1])):
            book = book_of_the_run()
            self.assertEqual(take_joins(book, octets(text)), answer)
            self.assertEqual(state(book), state(book_of_the_run()))

    def test_refused_calls_in_a_list(self):
        told = run(joins(RUN_JOINS), joins("7\n1 1 9\n1 1 9\n"), words("x"), WRITE)
        self.assertEqual(told, [[3], [-2, 2, 3], [-2, 0, 1], written(RUN_WRITTEN)])

    def test_refused_on_a_new_object(self):
        self.assertEqual(run(joins("7\nx\n"), WRITE), [[-2, 1, 1], written("65535\n")])


class InterfaceTest(unittest.TestCase):

    def test_empty_list(self):
        self.assertEqual(answers([]), [])

    def test_each_answer_has_its_count_before_it(self):
        self.assertEqual(answers([1]), [1, 0])
        self.assertEqual(answers([2, 0]), [1, 0])
        self.assertEqual(answers([3, 0]), [3, -2, 0, 1])
        self.assertEqual(answers([3, 2, 0x37, 0x0A]), [1, 0])
        self.assertEqual(answers([4]), [7, 6, 0x36, 0x35, 0x35, 0x33, 0x35, 0x0A])

    def test_several_calls(self):
        calls = words(RUN_LEXICON) + joins(RUN_JOINS) + [4, 1, 4] + words("a\n") + [2, 0]
        lines = list(RUN_WRITTEN.encode())
        self.assertEqual(answers(calls), [1, 4, 1, 3, 23, 22] + lines + [1, 0, 7, 6] + list(b"65535\n")
                         + [3, -2, 0, 1, 1, 0])

    def test_rows_that_look_like_calls(self):
        self.assertEqual(answers([2, 5, 1, 2, 3, 4, 4, 1, 3, 3, 4, 4, 4]), [3, -2, 0, 1, 1, 0, 3, -2, 0, 1])

    def test_a_hundred_calls(self):
        self.assertEqual(answers([1] * 100), [1, 0] * 100)

    def test_runs_know_nothing_of_each_other(self):
        first = answers(words(RUN_LEXICON) + joins(RUN_JOINS) + WRITE)
        self.assertEqual(answers(WRITE), [7, 6] + list(b"65535\n"))
        self.assertEqual(answers(words(RUN_LEXICON) + joins(RUN_JOINS) + WRITE), first)
        self.assertEqual(answers(words(RUN_LEXICON)), [1, 4])

    def test_list_handed_in_is_not_changed(self):
        calls = words(RUN_LEXICON) + joins(RUN_JOINS) + WRITE + words("wrong") + joins("") + BEGIN
        before = list(calls)
        answers(calls)
        self.assertEqual(calls, before)

    def test_what_is_given_back_is_a_list_of_its_own(self):
        calls = [1]
        told = answers(calls)
        told.append(9)
        self.assertEqual((calls, answers(calls)), ([1], [1, 0]))

    def test_only_whole_numbers_are_given_back(self):
        told = answers(words(RUN_LEXICON) + joins(RUN_JOINS) + WRITE + words("x") + BEGIN)
        self.assertEqual({type(number) for number in told}, {int})
        self.assertIs(type(told), list)

    def test_longest_lists(self):
        text = "a" * 45498
        self.assertEqual(run(words(text)), [[-2, 0, 1]])
        self.assertEqual(run(words("a b 0 0 " + "9" * 45489 + "\n")), [[-2, 0, 2]])
        self.assertEqual(run(words("\n" * 45498)), [[-2, 0, 1]])


if __name__ == "__main__":
    unittest.main()
