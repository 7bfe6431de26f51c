"""Points [60] and [61]: Book, Settled, Small, SettledSmall."""

import random
import unittest

from closestrule.books import Book, Settled, Small, SettledSmall
from closestrule.errors import (
    Known, NoCase, NoNumber, NoRule, NothingDone, NotRules, NotThere, RuleError, TooMany, Torn,
)
from closestrule.listings import Ordered, Rules
from tests.samples import (
    LIKE_TWELVE, RIGHT_CASES, SETTLED_TWELVE, THIRTEEN, TWELVE, WRONG_CASES, WRONG_RULES, cases_over,
    results_by_definition, verdict_by_definition, wrong_lists,
)

A = ((), 1)
B = (((0, 3),), 2)
C = (((1, 5),), 4)
D = (((0, 3), (1, 5)), 2)
E = (((2, 0),), 2)
KINDS = (Book, Settled, Small, SettledSmall)
WRONG_NUMBERS = (-1, 13, 10**12, True, False, None, "6", "", [6], (6,), {}, (), Rules())


def state(book):
    """All that can be read of a book, with the order of its rules."""
    return (book.listing.rules, book.watched, book.results, book.changes, len(book), repr(book))


def emptied(book):
    """Everything taken back; the states on the way, the last change first."""
    found = []
    for turn in range(book.changes):
        book.undo()
        found.append(state(book))
    return found


class BookTestCase(unittest.TestCase):
    def check(self, book, rules, watched=(), changes=0):
        results = tuple(results_by_definition(rules, case) for case in watched)
        expected = (rules, watched, results, changes, len(rules), f"{type(book).__name__}({len(rules)} rules)")
        for turn in range(2):
            self.assertEqual(repr(state(book)), repr(expected))
        self.assertIs(type(book.listing), Rules)

    def refuse(self, error, book, call):
        """The call raises just this error, and leaves the book as it was, with all that it can take back."""
        before = state(book)
        with self.assertRaises(RuleError) as caught:
            call()
        self.assertIs(type(caught.exception), error)
        self.assertNotEqual(str(caught.exception), "")
        self.assertEqual(repr(state(book)), repr(before))

    def refuse_list(self, error, book, rules):
        """Both ways to assign a list refuse this value."""
        self.refuse(error, book, lambda: book.assign_listing(rules))
        self.refuse(error, book, lambda: setattr(book, "listing", rules))

    def refuse_add(self, error, book, rule):
        """Both ways to add a rule refuse this value."""
        self.refuse(error, book, lambda: book.add(rule))
        self.refuse(error, book, lambda: book(rule))


class MakingTest(BookTestCase):
    def test_new_books(self):
        for rules in ((), (A,), (B, A), (D, A, C, B)):
            for kind in KINDS:
                listing = Rules(*rules)
                book = kind(listing)
                self.check(book, rules)
                self.assertEqual(book.listing, listing)
                self.assertEqual(listing.rules, rules)

    def test_twelve_rules(self):
        for rules in (SETTLED_TWELVE, LIKE_TWELVE):
            for book in (Book(Rules(*rules)), Settled(Rules(*rules)), Small(Rules(*rules), 12), SettledSmall(Rules(*rules), 12)):
                self.check(book, rules)
        for book in (Book(Rules(*TWELVE)), Small(Rules(*TWELVE), most=12)):
            self.check(book, TWELVE)

    def test_the_word_is_the_same_for_all_numbers(self):
        self.assertEqual(repr(Book(Rules())), "Book(0 rules)")
        self.assertEqual(repr(Settled(Rules(A))), "Settled(1 rules)")
        self.assertEqual(repr(Small(Rules(A, B, C))), "Small(3 rules)")
        self.assertEqual(repr(SettledSmall(Rules(A, B))), "SettledSmall(2 rules)")

    def test_which_class_is_which(self):
        for kind in KINDS:
            self.assertIs(issubclass(kind, Book), True)
            self.assertIs(issubclass(kind, Settled), kind in (Settled, SettledSmall))
            self.assertIs(issubclass(kind, Small), kind in (Small, SettledSmall))

    def test_most(self):
        for kind in (Small, SettledSmall):
            self.assertEqual(kind(Rules()).most, 6)
            for most in range(13):
                book = kind(Rules(), most)
                self.assertEqual((book.most, kind(Rules(), most=most).most), (most, most))
                with self.assertRaises(AttributeError):
                    book.most = 3
                self.assertEqual(book.most, most)

    def test_wrong_lists(self):
        for kind in KINDS:
            for thing in wrong_lists(Rules) + (kind(Rules()),):
                self.assertRaises(NotRules, kind, thing)

    def test_wrong_numbers(self):
        for kind in (Small, SettledSmall):
            for most in WRONG_NUMBERS:
                self.assertRaises(NoNumber, kind, Rules(), most)
                self.assertRaises(NoNumber, kind, Rules(), most=most)

    def test_torn_lists(self):
        for kind in (Settled, SettledSmall):
            for rules in ((A, B, C), (A, ((), 2))):
                self.assertRaises(Torn, kind, Rules(*rules))
        self.assertRaises(Torn, Settled, Rules(*TWELVE))
        self.check(Book(Rules(A, B, C)), (A, B, C))
        self.check(Small(Rules(A, B, C)), (A, B, C))

    def test_too_many_rules(self):
        for kind in (Small, SettledSmall):
            self.check(kind(Rules(*LIKE_TWELVE[:6])), LIKE_TWELVE[:6])
            self.assertRaises(TooMany, kind, Rules(*LIKE_TWELVE[:7]))
            for most in range(12):
                self.check(kind(Rules(*LIKE_TWELVE[:most]), most), LIKE_TWELVE[:most])
                self.assertRaises(TooMany, kind, Rules(*LIKE_TWELVE[:most + 1]), most)
                self.assertRaises(TooMany, kind, Rules(*LIKE_TWELVE), most)

    def test_which_exception_comes_first(self):
        for kind in (Small, SettledSmall):
            for thing in wrong_lists(Rules):
                self.assertRaises(NotRules, kind, thing, None)
            for most in WRONG_NUMBERS:
                self.assertRaises(NotRules, kind, None, most)
                self.assertRaises(NoNumber, kind, Rules(*TWELVE), most)
            self.assertRaises(TooMany, kind, Rules(A, B, C), 2)
            self.assertRaises(TooMany, kind, Rules(*TWELVE))
        self.assertRaises(NoNumber, SettledSmall, Rules(A, B, C), 13)
        self.assertRaises(Torn, SettledSmall, Rules(A, B, C), 3)

    def test_books_of_one_list_are_apart(self):
        listing = Rules(A, B)
        one, other = Book(listing), Book(listing)
        one.add(D)
        one.watch(())
        self.check(one, (A, B, D), ((),), 2)
        self.check(other, (A, B))
        self.assertEqual(listing.rules, (A, B))


class ListingTest(BookTestCase):
    def test_assigned_lists(self):
        for kind in KINDS:
            book = kind(Rules(A))
            book.listing = Rules(B, D)
            self.check(book, (B, D), (), 1)
            self.assertIsNone(book.assign_listing(Rules()))
            self.check(book, (), (), 2)

    def test_an_equal_list(self):
        for kind in KINDS:
            book = kind(Rules(A, B, D))
            book.listing = Rules(A, B, D)
            self.check(book, (A, B, D), (), 1)
            book.listing = Rules(D, A, B)
            self.check(book, (D, A, B), (), 2)
            book.assign_listing(Rules(B, D, A))
            self.check(book, (B, D, A), (), 3)
            book.listing = book.listing
            self.check(book, (B, D, A), (), 4)
            self.assertEqual([told[0] for told in emptied(book)], [(B, D, A), (D, A, B), (A, B, D), (A, B, D)])

    def test_twelve_rules(self):
        for book in (Book(Rules()), Settled(Rules()), Small(Rules(), 12), SettledSmall(Rules(), 12)):
            book.listing = Rules(*SETTLED_TWELVE)
            self.check(book, SETTLED_TWELVE, (), 1)

    def test_wrong_lists(self):
        for kind in KINDS:
            book = kind(Rules(A))
            book.watch(())
            for thing in wrong_lists(Rules) + (book,):
                self.refuse_list(NotRules, book, thing)

    def test_refused_lists(self):
        for kind in KINDS:
            book = kind(Rules(A))
            book.add(B)
            book.watch(B[0])
            if kind in (Settled, SettledSmall):
                self.refuse_list(Torn, book, Rules(A, B, C))
                self.refuse_list(Torn, book, Rules(((), 1), ((), 2)))
            if kind in (Small, SettledSmall):
                self.refuse_list(TooMany, book, Rules(*LIKE_TWELVE[:7]))
                self.refuse_list(TooMany, book, Rules(*TWELVE))
            self.check(book, (A, B), (B[0],), 2)
            book.listing = Rules(*LIKE_TWELVE[:6])
            self.check(book, LIKE_TWELVE[:6], (B[0],), 3)


class AddAndDropTest(BookTestCase):
    def test_add(self):
        for kind in KINDS:
            book = kind(Rules(B))
            self.assertIsNone(book.add(A))
            self.check(book, (B, A), (), 1)
            self.assertIsNone(book(D))
            self.check(book, (B, A, D), (), 2)
            book(C)
            self.check(book, (B, A, D, C), (), 3)

    def test_drop(self):
        for kind in KINDS:
            book = kind(Rules(B, A, D, E))
            self.assertIsNone(book.drop(A))
            self.check(book, (B, D, E), (), 1)
            book.drop(E)
            book.drop(B)
            self.check(book, (D,), (), 3)
            book.drop(D)
            self.check(book, (), (), 4)
            book.add(D)
            self.check(book, (D,), (), 5)

    def test_rules_with_the_same_conditions(self):
        for kind in (Book, Small):
            book = kind(Rules(A))
            book.add(((), 2))
            self.check(book, (A, ((), 2)), (), 1)
            book.drop(A)
            self.check(book, (((), 2),), (), 2)
        for kind in (Settled, SettledSmall):
            self.refuse_add(Torn, kind(Rules(A)), ((), 2))

    def test_wrong_rules(self):
        for kind in KINDS:
            book = kind(Rules((((0, 1),), 1), (((0, 0),), 0)))
            book.watch(((0, 1),))
            for thing in WRONG_RULES + (book, (((0, True),), 1), (((0, 1),), True), (((False, 1),), 1)):
                self.refuse_add(NoRule, book, thing)
                self.refuse(NoRule, book, lambda: book.drop(thing))

    def test_known_rules_and_others(self):
        for kind in KINDS:
            book = kind(Rules(A, B))
            for rule in (A, B):
                self.refuse_add(Known, book, rule)
            for rule in (C, D, ((), 2), (((0, 3),), 1)):
                self.refuse(NotThere, book, lambda: book.drop(rule))
            book.drop(A)
            self.refuse(NotThere, book, lambda: book.drop(A))

    def test_just_twelve_rules(self):
        for book in (Book(Rules()), Settled(Rules()), Small(Rules(), 12), SettledSmall(Rules(), 12)):
            for rule in LIKE_TWELVE:
                book.add(rule)
            self.check(book, LIKE_TWELVE, (), 12)
            self.refuse_add(TooMany, book, (((4, 4),), 7))
            self.refuse_add(TooMany, book, (((4, 4),), 8))
            self.refuse_add(Known, book, LIKE_TWELVE[0])
            self.refuse_add(NoRule, book, (((4, 4),), 100))

    def test_just_most_rules(self):
        for kind in (Small, SettledSmall):
            for most in range(12):
                book = kind(Rules(*LIKE_TWELVE[:most]), most)
                self.refuse_add(TooMany, book, LIKE_TWELVE[most])
                if most > 0:
                    self.refuse_add(Known, book, LIKE_TWELVE[0])
                    book.drop(LIKE_TWELVE[0])
                    book.add(LIKE_TWELVE[most])
                    self.check(book, LIKE_TWELVE[1:most + 1], (), 2)

    def test_lists_that_would_be_torn(self):
        for kind in (Settled, SettledSmall):
            book = kind(Rules(A, B))
            self.refuse_add(Torn, book, C)
            book.add(D)
            book.add(C)
            self.refuse(Torn, book, lambda: book.drop(D))
            self.check(book, (A, B, D, C), (), 2)
            book.drop(B)
            book.drop(D)
            self.check(book, (A, C), (), 4)
        for kind in (Book, Small):
            book = kind(Rules(A, B))
            book.add(C)
            self.check(book, (A, B, C), (), 1)

    def test_which_exception_comes_first(self):
        book = SettledSmall(Rules(A, B), 2)
        self.refuse_add(NoRule, book, ((), 100))
        self.refuse_add(Known, book, B)
        self.refuse_add(TooMany, book, C)
        self.refuse(NoRule, book, lambda: book.drop(None))
        self.refuse(NotThere, book, lambda: book.drop(C))
        self.refuse_list(NotRules, book, TWELVE)
        self.refuse_list(TooMany, book, Rules(A, B, C))
        self.refuse_list(Torn, book, Rules(B, C))
        self.refuse_add(TooMany, Settled(Rules(*SETTLED_TWELVE)), (((4, 4),), 99))
        self.refuse_add(Torn, Settled(Rules(*SETTLED_TWELVE[:11])), (((4, 4),), 99))


class WatchTest(BookTestCase):
    def test_watched_and_results(self):
        for kind in KINDS:
            book = kind(Rules(A, B))
            self.assertIsNone(book.watch(((0, 3),)))
            book.watch(())
            book.watch(((0, 3),))
            self.assertEqual(book.watched, (((0, 3),), (), ((0, 3),)))
            self.assertEqual(book.results, ((2,), (1,), (2,)))
            self.check(book, (A, B), (((0, 3),), (), ((0, 3),)), 3)
            book.drop(B)
            self.assertEqual(book.results, ((1,), (1,), (1,)))
            book.listing = Rules(B)
            self.assertEqual(book.results, ((2,), (), (2,)))

    def test_several_results(self):
        for kind in (Book, Small):
            book = kind(Rules(C, B))
            book.watch(((0, 3), (1, 5)))
            self.assertEqual(book.results, ((2, 4),))

    def test_many_cases(self):
        for kind in KINDS:
            book = kind(Rules(A, B))
            for case in RIGHT_CASES * 30:
                book.watch(case)
            self.check(book, (A, B), RIGHT_CASES * 30, 30 * len(RIGHT_CASES))

    def test_wrong_cases(self):
        for kind in KINDS:
            book = kind(Rules(A))
            book.watch(((0, 1),))
            for thing in WRONG_CASES:
                self.refuse(NoCase, book, lambda: book.watch(thing))

    def test_what_can_only_be_read(self):
        for kind in KINDS:
            book = kind(Rules(A))
            for name in ("watched", "results", "changes"):
                with self.assertRaises(AttributeError):
                    setattr(book, name, ())
            self.check(book, (A,))


class UndoTest(BookTestCase):
    def test_back_to_the_beginning(self):
        for kind in KINDS:
            book = kind(Rules(A))
            before = [state(book)]
            for change in (
                lambda: book.add(B), lambda: book.watch(((0, 3),)), lambda: book(D), lambda: book.drop(A),
                lambda: book.watch(()), lambda: book.assign_listing(Rules(E, A)), lambda: setattr(book, "listing", Rules(A, E)),
                lambda: book.watch(()), lambda: book.drop(E),
            ):
                change()
                before.append(state(book))
            self.check(book, (A,), (((0, 3),), (), ()), 9)
            self.assertEqual(emptied(book), before[-2::-1])
            self.check(book, (A,))
            self.refuse(NothingDone, book, book.undo)
            book.add(B)
            self.check(book, (A, B), (), 1)

    def test_nothing_done(self):
        for kind in KINDS:
            book = kind(Rules())
            self.refuse(NothingDone, book, book.undo)
            book.watch(())
            self.assertIsNone(book.undo())
            self.refuse(NothingDone, book, book.undo)

    def test_undo_cannot_be_taken_back(self):
        for kind in KINDS:
            book = kind(Rules(A))
            book.add(B)
            book.add(D)
            book.undo()
            book.undo()
            self.check(book, (A,))
            book.add(E)
            book.watch(())
            book.undo()
            self.check(book, (A, E), (), 1)
            book.undo()
            self.check(book, (A,))

    def test_a_dropped_rule_is_put_back_in_its_place(self):
        for kind in KINDS:
            book = kind(Rules(A, B, D))
            book.drop(B)
            book.undo()
            self.check(book, (A, B, D))

    def test_refused_changes_are_not_counted(self):
        for kind in KINDS:
            book = kind(Rules(A))
            book.add(B)
            self.refuse_add(Known, book, B)
            self.refuse(NoCase, book, lambda: book.watch(None))
            self.refuse_list(NotRules, book, Ordered(A))
            book.undo()
            self.check(book, (A,))


class Stopped(Exception):
    """An exception of a caller."""


class TryingTest(BookTestCase):
    def test_without_an_exception(self):
        for kind in KINDS:
            book = kind(Rules(A))
            book.add(B)
            with book.trying():
                book.add(D)
                book.watch(())
                self.check(book, (A, B, D), ((),), 3)
            self.check(book, (A, B, D), ((),), 3)
            self.assertEqual([told[0] for told in emptied(book)], [(A, B, D), (A, B), (A,)])

    def test_with_an_exception(self):
        for kind in KINDS:
            for error in (Stopped("why"), KeyError(1), KeyboardInterrupt(), SystemExit(1), GeneratorExit()):
                book = kind(Rules(B, A))
                book.watch(((0, 3),))
                book.drop(A)
                with self.assertRaises(type(error)) as caught:
                    with book.trying():
                        book.add(D)
                        book.watch(())
                        book.drop(B)
                        book.listing = Rules(E)
                        raise error
                self.assertIs(caught.exception, error)
                self.check(book, (B,), (((0, 3),),), 2)
                self.assertEqual([told[0] for told in emptied(book)], [(B, A), (B, A)])

    def test_an_exception_of_the_book(self):
        for kind in KINDS:
            book = kind(Rules(A))
            with self.assertRaises(Known):
                with book.trying():
                    book.add(B)
                    book.add(A)
            self.check(book, (A,))

    def test_an_exception_that_does_not_leave_the_block(self):
        for kind in KINDS:
            book = kind(Rules(A))
            with book.trying():
                book.add(B)
                try:
                    book.add(B)
                except Known:
                    book.add(D)
            self.check(book, (A, B, D), (), 2)

    def test_changes_taken_back_in_the_block(self):
        for kind in KINDS:
            book = kind(Rules(A))
            book.add(B)
            book.watch(())
            book.add(D)
            with self.assertRaises(Stopped):
                with book.trying():
                    for turn in range(3):
                        book.undo()
                    book.watch(((0, 3),))
                    book.add(E)
                    raise Stopped
            self.check(book, (A, B, D), ((),), 3)
            self.assertEqual([told[:2] for told in emptied(book)], [((A, B), ((),)), ((A, B), ()), ((A,), ())])

    def test_it_counts_from_the_beginning_of_the_block(self):
        for kind in KINDS:
            book = kind(Rules(A))
            block = book.trying()
            book.add(B)
            with self.assertRaises(Stopped):
                with block:
                    book.add(D)
                    raise Stopped
            self.check(book, (A, B), (), 1)

    def test_one_within_another(self):
        for kind in KINDS:
            book = kind(Rules(A))
            with book.trying():
                book.add(B)
                with self.assertRaises(Stopped):
                    with book.trying():
                        book.add(D)
                        book.undo()
                        book.undo()
                        raise Stopped
                self.check(book, (A, B), (), 1)
                book.watch(())
            self.check(book, (A, B), ((),), 2)
            with self.assertRaises(Stopped):
                with book.trying():
                    book.add(D)
                    with book.trying():
                        book.add(E)
                    self.check(book, (A, B, D, E), ((),), 4)
                    raise Stopped
            self.check(book, (A, B), ((),), 2)
            with self.assertRaises(Stopped):
                with book.trying():
                    book.add(D)
                    with book.trying():
                        book.undo()
                        raise Stopped
            self.check(book, (A, B), ((),), 2)

    def test_two_books(self):
        one, other = Book(Rules(A)), Settled(Rules(B))
        with self.assertRaises(Stopped):
            with one.trying():
                one.add(B)
                other.add(A)
                raise Stopped
        self.check(one, (A,))
        self.check(other, (B, A), (), 1)

    def test_an_empty_block(self):
        for kind in KINDS:
            book = kind(Rules())
            with book.trying():
                pass
            self.check(book, ())


class Model:
    """A book as the document describes it, kept as a list of states, with the exceptions in their order."""

    def __init__(self, kind, rules, most):
        self.settled = kind in (Settled, SettledSmall)
        self.most = most if kind in (Small, SettledSmall) else 12
        self.states = [(rules, ())]

    def change(self, word, thing):
        """Make the change, or return the class of the exception that is raised."""
        rules, watched = self.states[-1]
        if word == "undo":
            if len(self.states) == 1:
                return NothingDone
            self.states.pop()
            return None
        if word == "watch":
            self.states.append((rules, watched + (thing,)))
            return None
        if word == "assign":
            new = thing
        elif word == "add":
            if thing in rules:
                return Known
            new = rules + (thing,)
        else:
            if thing not in rules:
                return NotThere
            new = tuple(rule for rule in rules if rule != thing)
        if len(new) > self.most:
            return TooMany
        if self.settled and verdict_by_definition(new)[0] == "torn":
            return Torn
        self.states.append((new, watched))
        return None


class ModelTest(BookTestCase):
    WORDS = ("add", "add", "add", "call", "drop", "drop", "watch", "assign", "set", "undo")

    def act(self, book, word, thing):
        if word == "undo":
            book.undo()
        elif word == "set":
            book.listing = Rules(*thing)
        elif word == "assign":
            book.assign_listing(Rules(*thing))
        else:
            {"add": book.add, "call": book, "drop": book.drop, "watch": book.watch}[word](thing)

    def step(self, draw, book, model):
        """One drawn change of both; the class of the exception."""
        word = draw.choice(self.WORDS)
        if word in ("assign", "set"):
            thing = tuple(draw.sample(self.rules, draw.randint(0, 4)))
        else:
            thing = draw.choice(self.cases if word == "watch" else self.rules)
        expected = model.change({"call": "add", "set": "assign"}.get(word, word), thing)
        try:
            self.act(book, word, thing)
            found = None
        except RuleError as error:
            found = type(error)
        self.assertEqual(found, expected)
        rules, watched = model.states[-1]
        self.check(book, rules, watched, len(model.states) - 1)
        return found

    def test_many_changes(self):
        self.cases = cases_over((0, 1), (1, 2))
        self.rules = [(case, result) for case in self.cases for result in (1, 2)]
        for number, kind in enumerate(KINDS):
            draw = random.Random(number)
            met = set()
            for turn in range(25):
                most = draw.randint(2, 12)
                book = kind(Rules(), most) if kind in (Small, SettledSmall) else kind(Rules())
                model = Model(kind, (), most)
                for count in range(40):
                    met.add(self.step(draw, book, model))
                kept = list(model.states)
                try:
                    with book.trying():
                        for count in range(draw.randint(0, 12)):
                            met.add(self.step(draw, book, model))
                        if turn > 12:
                            raise Stopped
                except Stopped:
                    model.states = kept
                for count in range(5):
                    met.add(self.step(draw, book, model))
                self.assertEqual([told[:2] for told in emptied(book)], model.states[-2::-1])
            expected = {None, Known, NotThere, NothingDone}
            expected |= {Torn} if kind in (Settled, SettledSmall) else set()
            expected |= {TooMany} if kind in (Small, SettledSmall) else set()
            self.assertLessEqual(expected, met)


class ManyChangesTest(BookTestCase):
    def test_thousands_of_changes(self):
        for kind in KINDS:
            book = kind(Rules(A))
            for turn in range(1000):
                book.add(B)
                book.drop(B)
                book.watch(((0, turn // 100),))
            self.assertEqual((book.changes, len(book.watched), len(book.results)), (3000, 1000, 1000))
            with self.assertRaises(Stopped):
                with book.trying():
                    for turn in range(3000):
                        book.undo()
                    raise Stopped
            self.assertEqual(book.changes, 3000)
            for turn in range(3000):
                book.undo()
            self.check(book, (A,))


class OtherValuesTest(BookTestCase):
    def test_books_as_any_value(self):
        for kind in KINDS:
            book = kind(Rules(A))
            for listing in (Rules(), Rules(A), Ordered(A)):
                self.assertIs(book in listing, False)
                self.assertIs(book == listing, False)
                self.assertIs(listing == book, False)
            self.assertRaises(NotRules, Book, book)
            self.assertRaises(NoCase, Rules(), book)

    def test_a_rule_is_compared_with_its_kinds(self):
        for kind in KINDS:
            book = kind(Rules((((1, 1),), 1)))
            for thing in ([((1, 1),), 1], ([(1, 1)], 1), (([1, 1],), 1), (((True, 1),), 1), (((1, True),), 1), (((1, 1),), True)):
                before = repr(thing)
                self.refuse_add(NoRule, book, thing)
                self.refuse(NoRule, book, lambda: book.drop(thing))
                self.assertEqual(repr(thing), before)

    def test_thirteen(self):
        book = Book(Rules(*THIRTEEN[:12]))
        self.refuse_add(TooMany, book, THIRTEEN[12])


if __name__ == "__main__":
    unittest.main()
