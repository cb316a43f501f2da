"""What holds of every call, whatever it reckons."""

import contextlib
import copy
import io


class WatchedList(list):
    """A list that tells of every change, also of one that is taken back."""

    def refuse(self, *_, **__):
        raise AssertionError("a list that was handed in is changed")

    append = clear = extend = insert = pop = remove = reverse = sort = refuse
    __setitem__ = __delitem__ = __iadd__ = __imul__ = refuse


class EachCallByItself:
    """Mixed into a TestCase that has CALL (a static method), NAMES of its parameters, and CALLS.

    CALLS holds pairs: what is handed in, and what is answered first. LENGTHS tells how many numbers an answer has that
    begins so; where it tells nothing, it is OTHER_LENGTH.
    """

    OTHER_LENGTH = 1

    def test_what_is_handed_in_is_not_changed(self):
        for handed, _ in self.CALLS:
            before = copy.deepcopy(handed)
            self.CALL(*handed)
            self.assertEqual(handed, before)

    def test_what_is_handed_in_is_not_changed_for_a_while(self):
        for handed, _ in self.CALLS:
            watched = [WatchedList(part) if isinstance(part, list) else part for part in handed]
            self.assertEqual(self.CALL(*watched), self.CALL(*handed))

    def test_the_same_again(self):
        first = [self.CALL(*copy.deepcopy(handed)) for handed, _ in self.CALLS]
        again = [self.CALL(*copy.deepcopy(handed)) for handed, _ in reversed(self.CALLS)]
        self.assertEqual(first, again[::-1])
        self.assertEqual([told[0] for told in first], [number for _, number in self.CALLS])

    def test_what_is_given_back_is_not_kept(self):
        for handed, _ in self.CALLS:
            told = self.CALL(*handed)
            before = list(told)
            told.append(7)
            self.assertEqual(self.CALL(*handed), before)

    def test_kinds_and_lengths(self):
        for handed, number in self.CALLS:
            told = self.CALL(*handed)
            self.assertIs(type(told), list)
            self.assertEqual([type(part) for part in told], [int] * self.LENGTHS.get(number, self.OTHER_LENGTH))

    def test_names_of_the_parameters(self):
        for handed, number in self.CALLS:
            self.assertEqual(self.CALL(**dict(zip(self.NAMES, handed)))[0], number)

    def test_nothing_is_printed(self):
        with contextlib.redirect_stdout(io.StringIO()) as printed, contextlib.redirect_stderr(printed):
            for handed, _ in self.CALLS:
                self.CALL(*handed)
        self.assertEqual(printed.getvalue(), "")
