"""restworld.notebooks."""

import random

from restworld.errors import InvalidFact, InvalidIndex, InvalidNumber, NoNumber, NothingToUndo, TooMany
from restworld.notebooks import Notebook
from tests.support import NO_INTEGERS, NO_NUMBERS, Case, same

MOST = 10 ** 40
GREAT = 10 ** 30
NO_PAIRS = (
    (1, 1), (2, 2), (-1, 2), (0, 0), (0, -2), (0, GREAT + 1), (GREAT, GREAT), (True, 2), (0, True), (None, 2), (0, None),
    ("0", "1"), ((0, 1), 2), (0, (2,)), ([], []), (False, 1), (object(), object()),
)


class Lost(Exception):
    """One of the caller's."""


def shown(book):
    """All that can be seen of a notebook."""
    return book.low, book.high, book.asks, book.left, book.least, book.greatest, book.changes


def all_back(book):
    """What is shown each time a change is taken back, until none is left."""
    seen = [shown(book)]
    while book.changes:
        book.undo()
        seen.append(shown(book))
    return seen


class Books(Case):
    def leads(self, wanted, method, *given):
        """The method returns just this, and takes its arguments by position."""
        told = method(*given)
        self.assertTrue(same(told, wanted), told)

    def keeps(self, error, book, method, *given):
        """The method raises the error, by position and by name, and nothing is changed."""
        before = shown(book)
        self.refuses(error, method, *given)
        self.assertEqual(shown(book), before)

    def shows(self, book, low, high, asks):
        """The notebook shows what these asks leave."""
        left = [number for number in range(low, high + 1)
                if all((number % base == rest) is truth for rest, base, truth in asks)]
        wanted = (low, high, asks, len(left), left[0], left[-1])
        self.assertTrue(same(shown(book)[:6], wanted), (shown(book), wanted))


class Examples(Books):
    def test_examples_of_the_document(self):
        book = Notebook(0, 99)
        told = [book.left, book.told(1, 2), book.left, book.never(0, 3), book.left, book.least, book.greatest,
                book.told(2, 7), book.left, book.undo(), book.left, book.asks]
        self.assertEqual(told, [100, None, 50, None, 33, 1, 97, None, 4, None, 33, ((1, 2, True), (0, 3, False))])
        self.keeps(NoNumber(), book, book.told, 0, 2)


class Making(Books):
    def test_new_ones(self):
        for low, high in ((0, 99), (5, 5), (-MOST, MOST), (MOST, MOST), (-MOST, -MOST), (-3, 3)):
            for book in (Notebook(low, high), Notebook(high=high, low=low), Notebook(low, high=high)):
                self.assertTrue(same(shown(book), (low, high, (), high - low + 1, low, high, 0)))

    def test_wrong_numbers(self):
        for wrong in NO_NUMBERS:
            self.refuses(InvalidNumber(wrong), Notebook, wrong, 5)
            self.refuses(InvalidNumber(wrong), Notebook, 5, wrong)
        self.refuses(InvalidNumber(4), Notebook, 5, 4)
        self.refuses(InvalidNumber(-MOST), Notebook, MOST, -MOST)
        self.refuses_in_order(Notebook, (0, "0", InvalidNumber("0")), (9, None, InvalidNumber(None)))

    def test_each_is_equal_to_itself_alone(self):
        book, other = Notebook(0, 9), Notebook(0, 9)
        self.assertIs(book == book, True)
        self.assertIs(book == other, False)
        self.assertIs(book != other, True)
        for value in (0, None, (), "book", Notebook, [book]):
            self.assertIs(book == value, False)
        self.assertIs(bool(book), True)

    def test_books_do_not_share(self):
        one, other = Notebook(0, 9), Notebook(0, 9)
        one.told(1, 2)
        self.assertEqual(shown(other), (0, 9, (), 10, 0, 9, 0))


class Asking(Books):
    def test_by_position_and_by_name(self):
        book = Notebook(0, 20)
        self.leads(None, book.told, 1, 2)
        self.leads(None, lambda: book.told(base=3, rest=2))
        self.leads(None, lambda: book.never(rest=0, base=5))
        self.leads(None, book.never, 1, 10)
        self.shows(book, 0, 20, ((1, 2, True), (2, 3, True), (0, 5, False), (1, 10, False)))
        self.leads(None, lambda: book.take(index=2))
        self.shows(book, 0, 20, ((1, 2, True), (2, 3, True), (1, 10, False)))

    def test_wrong_facts(self):
        book = Notebook(0, 99)
        book.told(1, 2)
        for wrong in NO_PAIRS:
            self.keeps(InvalidFact(wrong), book, book.told, *wrong)
            self.keeps(InvalidFact(wrong), book, book.never, *wrong)
        for wrong in NO_INTEGERS:
            self.keeps(InvalidFact((wrong, 2)), book, book.told, wrong, 2)
            self.keeps(InvalidFact((0, wrong)), book, book.never, 0, wrong)
        self.leads(None, book.never, GREAT - 1, GREAT)
        self.leads(None, book.told, 0, 1)

    def test_no_number_is_left(self):
        book = Notebook(0, 99)
        book.told(1, 2)
        book.never(0, 3)
        for rest, base in ((0, 2), (0, 3), (0, 4), (0, 6), (3, 6), (10, 12), (0, GREAT), (100, 200)):
            self.keeps(NoNumber(), book, book.told, rest, base)
        for rest, base in ((0, 1), (1, 2)):
            self.keeps(NoNumber(), book, book.never, rest, base)
        self.leads(None, book.never, 1, 3)
        self.keeps(NoNumber(), book, book.never, 2, 3)
        self.keeps(NoNumber(), book, book.never, 5, 6)
        one = Notebook(7, 7)
        for base in range(1, 12):
            for rest in range(base):
                right, wrong = (one.told, one.never) if 7 % base == rest else (one.never, one.told)
                self.keeps(NoNumber(), one, wrong, rest, base)
                self.leads(None, right, rest, base)
                self.leads(None, one.undo)

    def test_forty_asks(self):
        book = Notebook(0, 99)
        for _ in range(40):
            book.told(1, 2)
        self.assertEqual((book.asks, book.changes, book.left), (((1, 2, True),) * 40, 40, 50))
        self.keeps(TooMany(40), book, book.told, 1, 2)
        self.keeps(TooMany(40), book, book.never, 0, 3)
        # Ahead of NoNumber, and behind InvalidFact.
        self.keeps(TooMany(40), book, book.told, 0, 2)
        self.keeps(TooMany(40), book, book.never, 1, 2)
        self.keeps(InvalidFact((2, 2)), book, book.told, 2, 2)
        book.take(39)
        self.leads(None, book.never, 0, 3)
        self.keeps(TooMany(40), book, book.told, 1, 2)
        book.undo()
        self.leads(None, book.told, 0, 1)
        self.assertEqual(len(book.asks), 40)

    def test_twelve_that_are_false(self):
        book = Notebook(0, 99)
        for _ in range(12):
            book.never(0, 3)
        self.keeps(TooMany(12), book, book.never, 0, 3)
        self.keeps(TooMany(12), book, book.never, 0, 1)
        self.keeps(InvalidFact((3, 3)), book, book.never, 3, 3)
        self.keeps(NoNumber(), book, book.told, 0, 3)
        for _ in range(28):
            self.leads(None, book.told, 1, 3)
        # Forty in all, and twelve that are False.
        self.keeps(TooMany(40), book, book.never, 0, 3)
        self.keeps(TooMany(40), book, book.told, 0, 3)
        book.take(20)
        self.keeps(TooMany(12), book, book.never, 0, 3)
        self.leads(None, book.told, 1, 3)
        book.take(3)
        self.leads(None, book.never, 0, 3)
        self.assertEqual(book.changes, 12 + 28 + 4)

    def test_great_spans(self):
        book = Notebook(-MOST, MOST)
        book.told(0, GREAT)
        self.assertEqual((book.left, book.least, book.greatest), (2 * 10 ** 10 + 1, -MOST, MOST))
        book.told(7, 9)
        self.assertEqual((book.least % 9, book.greatest % 9, book.least % GREAT), (7, 7, 0))
        book.never(0, 10 ** 29 * 7)
        self.assertEqual(book.asks, ((0, GREAT, True), (7, 9, True), (0, 7 * 10 ** 29, False)))


class Taking(Books):
    def test_each_index(self):
        asks = ((1, 2, True), (0, 3, False), (2, 5, True), (0, 7, False))
        for index in range(4):
            book = self.book_of(asks)
            self.leads(None, book.take, index)
            self.shows(book, 0, 199, asks[:index] + asks[index + 1:])
            self.assertEqual(book.changes, 5)
            self.leads(None, book.undo)
            self.shows(book, 0, 199, asks)
            self.assertEqual(book.changes, 4)

    def test_wrong_indexes(self):
        book = Notebook(0, 9)
        for wrong in NO_INTEGERS + (0, 1, -1, MOST):
            self.keeps(InvalidIndex(wrong), book, book.take, wrong)
        book.told(1, 2)
        book.never(0, 3)
        for wrong in NO_INTEGERS + (2, -1, -2, MOST):
            self.keeps(InvalidIndex(wrong), book, book.take, wrong)

    def test_asks_are_told_again(self):
        book = self.book_of(((1, 2, True), (0, 2, False)))
        book.take(0)
        book.told(1, 2)
        self.assertEqual(book.asks, ((0, 2, False), (1, 2, True)))

    def book_of(self, asks):
        book = Notebook(0, 199)
        for rest, base, truth in asks:
            (book.told if truth else book.never)(rest, base)
        return book


class Undoing(Books):
    def test_nothing_to_undo(self):
        book = Notebook(0, 9)
        self.keeps(NothingToUndo(), book, book.undo)
        book.told(1, 2)
        book.undo()
        self.keeps(NothingToUndo(), book, book.undo)

    def test_errors_are_no_changes(self):
        book = Notebook(0, 9)
        for call in (lambda: book.told(3, 2), lambda: book.never(0, 1), lambda: book.take(0), book.undo):
            with self.assertRaises((ValueError, ArithmeticError, LookupError)):
                call()
        self.assertEqual(book.changes, 0)

    def test_walks(self):
        chance = random.Random(61)
        for _ in range(40):
            low = chance.randint(-30, 30)
            book, past = Notebook(low, low + 60), [()]
            for _ in range(60):
                self.step(chance, book, past)
                self.shows(book, low, low + 60, past[-1])
                self.assertEqual(book.changes, len(past) - 1)
            self.assertEqual([told[2] for told in all_back(book)], past[::-1])

    def step(self, chance, book, past):
        """Something is done to the notebook, and to the list of its asks from the first to the last."""
        deed = chance.choice(("told", "never", "told", "never", "take", "undo"))
        if deed == "undo" and len(past) > 1:
            book.undo()
            past.pop()
        elif deed == "take" and past[-1]:
            index = chance.randrange(len(past[-1]))
            book.take(index)
            past.append(past[-1][:index] + past[-1][index + 1:])
        elif deed in ("told", "never"):
            base = chance.randint(1, 9)
            ask = (chance.randrange(base), base, deed == "told")
            try:
                (book.told if ask[2] else book.never)(*ask[:2])
            except (NoNumber, TooMany):
                return
            past.append(past[-1] + (ask,))

    def test_very_many_changes(self):
        book = Notebook(0, 9)
        for _ in range(3000):
            book.told(1, 2)
            book.take(0)
        self.assertEqual((book.changes, book.asks), (6000, ()))
        for _ in range(6000):
            book.undo()
        self.assertEqual(shown(book), (0, 9, (), 10, 0, 9, 0))
        for _ in range(20000):
            book.told(1, 2)
            book.take(0)
        # Nothing is left over of it that could not be let go.
        del book


class Trials(Books):
    def setUp(self):
        self.book = Notebook(0, 99)
        self.book.told(1, 2)
        self.book.never(0, 3)
        self.before = shown(self.book)
        again = Notebook(0, 99)
        again.told(1, 2)
        again.never(0, 3)
        self.past = all_back(again)

    def unchanged(self):
        self.assertEqual(shown(self.book), self.before)

    def tearDown(self):
        self.unchanged()
        self.assertEqual(all_back(self.book), self.past)

    def test_it_gives_the_notebook(self):
        with self.book.trial() as book:
            self.assertIs(book, self.book)
            book.told(2, 7)
            self.assertEqual((self.book.left, self.book.changes), (4, 3))
        self.unchanged()

    def test_more_is_taken_back_within(self):
        with self.book.trial():
            self.book.undo()
            self.book.undo()
            self.assertEqual((self.book.changes, self.book.asks), (0, ()))
            self.keeps(NothingToUndo(), self.book, self.book.undo)
            self.book.told(0, 5)
            self.assertEqual(self.book.changes, 1)
        self.unchanged()

    def test_nothing_is_done_within(self):
        with self.book.trial():
            pass
        self.unchanged()

    def test_errors_are_passed_on(self):
        with self.assertRaises(NoNumber):
            with self.book.trial() as book:
                book.told(2, 7)
                book.told(0, 2)
        self.unchanged()
        lost = Lost("where")
        with self.assertRaises(Lost) as caught:
            with self.book.trial() as book:
                book.take(0)
                raise lost
        self.assertIs(caught.exception, lost)

    def test_other_ways_out(self):
        def leave():
            with self.book.trial() as book:
                book.told(2, 7)
                return book.left

        self.assertEqual(leave(), 4)
        self.unchanged()
        for rest in range(7):
            with self.book.trial() as book:
                book.told(rest, 7)
                if rest == 3:
                    break
        self.unchanged()
        with self.assertRaises(KeyboardInterrupt):
            with self.book.trial() as book:
                book.told(2, 7)
                raise KeyboardInterrupt

    def test_trials_within_trials(self):
        with self.book.trial() as book:
            book.told(2, 7)
            within = shown(book)
            with book.trial():
                book.undo()
                book.undo()
                with book.trial():
                    book.undo()
                    self.assertEqual(book.changes, 0)
                self.assertEqual(book.changes, 1)
            self.assertEqual(shown(book), within)
            with self.assertRaises(Lost):
                with book.trial():
                    book.take(0)
                    raise Lost()
            self.assertEqual(shown(book), within)
        self.unchanged()

    def test_used_again_also_within_itself(self):
        trial = self.book.trial()
        for rest in (1, 2):
            with trial as book:
                book.told(rest, 7)
                within = shown(book)
                with trial as again:
                    self.assertIs(again, book)
                    book.undo()
                    book.undo()
                    with trial:
                        book.told(0, 5)
                    self.assertEqual(book.changes, 1)
                self.assertEqual(shown(book), within)
            self.unchanged()
        with self.assertRaises(Lost):
            with trial:
                self.book.take(1)
                with trial:
                    self.book.take(0)
                    raise Lost()
        self.unchanged()
        with trial:
            self.book.take(0)

    def test_made_early_begins_with_its_rows(self):
        other = Notebook(0, 9)
        trial = other.trial()
        other.told(1, 2)
        with trial:
            other.told(1, 3)
        self.assertEqual(other.asks, ((1, 2, True),))

    def test_tried(self):
        seen = []

        def action(book):
            seen.append(book)
            book.told(2, 7)
            return book.left, book.changes

        self.assertEqual(self.book.tried(action), (4, 3))
        self.unchanged()
        self.assertEqual(self.book.tried(action=action), (4, 3))
        self.assertIs(seen[0], self.book)
        self.assertIs(self.book.tried(lambda book: book.told(2, 7)), None)
        self.assertIs(self.book.tried(lambda book: book), self.book)
        answer = [1, [2]]
        self.assertIs(self.book.tried(lambda book: answer), answer)

    def test_tried_passes_on(self):
        lost = Lost("why")

        def action(book):
            book.told(2, 7)
            raise lost

        with self.assertRaises(Lost) as caught:
            self.book.tried(action)
        self.assertIs(caught.exception, lost)
        self.unchanged()
        with self.assertRaises(NothingToUndo):
            self.book.tried(lambda book: [book.undo(), book.undo(), book.undo()])
        self.unchanged()
        self.assertEqual(self.book.tried(lambda book: book.tried(lambda again: again.take(0)) or book.left), 33)
