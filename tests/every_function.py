"""Tests that every function must pass. They stand apart from TestCase: a test file joins them with it and its own."""

import contextlib
import inspect
import io

from parties import ALL_OF_8, HIGHEST, REFUSED, FrozenList


class WrongPairs:
    """Numbers of guests and pairs that are refused. `answers(n, pairs)` gives what is answered, of one call or more."""

    def assert_refused(self, n, pairs):
        for answer in self.answers(n, pairs):
            self.assertEqual(answer, REFUSED, (n, pairs))

    def test_how_many_guests(self):
        for n in (0, 9, 10, 255, 256, HIGHEST):
            self.assert_refused(n, [])
            self.assert_refused(n, [0, 1])

    def test_an_odd_list(self):
        self.assert_refused(3, [0])
        self.assert_refused(3, [0, 1, 2])
        self.assert_refused(3, [0, 1] * 27 + [0])
        self.assert_refused(3, [0, 1] * 28 + [0])
        self.assert_refused(3, [0, 1] * 29 + [0])

    def test_more_than_28_pairs(self):
        self.assert_refused(2, [0, 1] * 29)
        self.assert_refused(2, [0, 1] * 30)
        self.assert_refused(8, ALL_OF_8 + [0, 1])

    def test_a_guest_with_themselves(self):
        self.assert_refused(1, [0, 0])
        self.assert_refused(3, [2, 2])
        self.assert_refused(3, [0, 1, 1, 1])
        self.assert_refused(3, [1, 1, 0, 1])

    def test_a_guest_who_is_not_there(self):
        for n in range(1, 9):
            for stranger in (n, n + 1, 255):
                self.assert_refused(n, [0, stranger])
                self.assert_refused(n, [stranger, 0])
        self.assert_refused(3, [0, 1, 1, 2, 2, 3])
        self.assert_refused(3, [0, 1] * 27 + [1, 255])
        self.assert_refused(3, [255, 254])

    def test_a_wrong_number_of_guests_with_wrong_pairs(self):
        self.assert_refused(0, [0])
        self.assert_refused(HIGHEST, [255] * 60)

    def test_what_is_at_the_edge_is_not_refused(self):
        for n, pairs in ((1, []), (8, ALL_OF_8), (2, [0, 1] * 28), (8, [7, 0]), (3, [0, 1, 1, 0])):
            for answer in self.answers(n, pairs):
                self.assertGreaterEqual(answer[0], 0, (n, pairs))
                self.assertNotEqual(answer, REFUSED, (n, pairs))


class WrongTerms:
    """What is refused of k and sure_bits. `answer(n, k, sure_bits, pairs)` gives what is answered."""

    def answers(self, n, pairs):
        return [self.answer(n, k, 0, pairs) for k in (0, 1, 8)]

    def assert_terms_refused(self, n, k, sure_bits, pairs):
        self.assertEqual(self.answer(n, k, sure_bits, pairs), REFUSED, (n, k, sure_bits, pairs))

    def test_k_above_8(self):
        for k in (9, 10, 255, 256, HIGHEST):
            self.assert_terms_refused(8, k, 0, ALL_OF_8)
            self.assert_terms_refused(1, k, 1, [])
        self.assertGreaterEqual(self.answer(8, 8, 0, ALL_OF_8)[0], 0)

    def test_sure_with_a_bit_of_no_guest(self):
        for n in range(1, 9):
            everybody = (1 << n) - 1
            for bits in (1 << n, everybody + (1 << n), 1 + (1 << 31), HIGHEST):
                self.assert_terms_refused(n, 1, bits, [])
                self.assert_terms_refused(n, 0, bits, [])
            self.assertGreaterEqual(self.answer(n, 1, everybody, [])[0], 0)

    def test_several_wrongs_are_answered_once(self):
        self.assert_terms_refused(0, 9, 1, [0])
        self.assert_terms_refused(HIGHEST, HIGHEST, HIGHEST, [255] * 60)


class Interface:
    """What holds of every call. `call(..)` is the function; NAMES are its parameters, GIVEN calls, pairs last.

    `numbers_behind(first)` gives how many numbers stand behind a first one that is no refusal.
    """

    def test_names_and_no_defaults(self):
        parameters = inspect.signature(self.call).parameters.values()
        self.assertEqual([p.name for p in parameters], self.NAMES)
        self.assertTrue(all(p.default is p.empty for p in parameters))
        for given in self.GIVEN:
            self.assertEqual(self.call(**dict(zip(self.NAMES, given))), self.call(*given))

    def test_one_list_of_whole_numbers(self):
        for given in self.GIVEN:
            answer = self.call(*given)
            self.assertIs(type(answer), list)
            self.assertTrue(all(type(number) is int for number in answer), answer)
            self.assertEqual(len(answer), 1 if answer[0] < 0 else 1 + self.numbers_behind(answer[0]))

    def test_what_is_handed_in_is_not_changed(self):
        again = [3] + [2, 4][: len(self.NAMES) - 2] + [[2, 1, 0, 1, 1, 2, 0, 1]]
        for *terms, pairs in (*self.GIVEN, again):
            handed, before = FrozenList(pairs), list(pairs)
            self.assertEqual(self.call(*terms, handed), self.call(*terms, pairs))
            self.assertEqual((list(handed), pairs), (before, before))

    def test_nothing_is_kept_from_one_call_to_the_next(self):
        first = [self.call(*given) for given in self.GIVEN]
        for before in self.GIVEN:
            for given, answer in zip(self.GIVEN, first):
                # Whoever changes an answer must not change the next one.
                self.call(*before).append(7)
                self.assertEqual(self.call(*given), answer)
                self.assertEqual(self.call(*given), answer)

    def test_nothing_is_printed(self):
        out, err = io.StringIO(), io.StringIO()
        with contextlib.redirect_stdout(out), contextlib.redirect_stderr(err):
            for given in self.GIVEN:
                self.call(*given)
        self.assertEqual(out.getvalue() + err.getvalue(), "")


class InterfaceWithTerms(Interface):
    """The same for those that take k and sure_bits too."""

    NAMES = ["n", "k", "sure_bits", "pairs"]
    GIVEN = (
        (5, 2, 0, [0, 1, 1, 2, 2, 0, 2, 3, 3, 4]),
        (4, 2, 9, [0, 1, 1, 2, 2, 3]),
        (4, 2, 0, [0, 1, 1, 2, 2, 3]),
        (1, 0, 0, []),
        (8, 8, 0, ALL_OF_8),
        (8, 8, 255, ALL_OF_8),
        (3, 1, 0, [0, 1, 2]),
        (9, 1, 0, [0, 1]),
        (3, 9, 0, [0, 1]),
        (3, 1, 8, [0, 1]),
        (3, 1, 0, [0, 3]),
        (2, 1, 0, [0, 1] * 29),
    )
