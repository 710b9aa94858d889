"""Objects that several tests need: a long integer, and objects of kinds that no function expects."""

HUGE = 10 ** 100 - 1  # the greatest integer with 100 digits


class Loud:
    """An object that fails if it is compared, measured, tested, indexed or iterated over."""

    def fail(self, *_):
        raise AssertionError("asked")

    __eq__ = __ne__ = __lt__ = __gt__ = __le__ = __ge__ = fail
    __len__ = __bool__ = __iter__ = __getitem__ = __contains__ = __int__ = __index__ = fail
    __hash__ = None


class Greedy:
    """An object that is equal to everything and greater and less than everything."""

    def hold(self, *_):
        return True

    __eq__ = __lt__ = __gt__ = __le__ = __ge__ = __bool__ = __contains__ = hold
    __hash__ = None


# Neither integers nor lists nor tuples.
NOTHING_USUAL = [True, False, None, "", "1", "12", b"", b"12", 0.0, 1.0, 2.5, float("nan"), float("inf"), 1j,
                 {}, {1: 2}, set(), {1, 2}, frozenset([1]), range(1, 3), bytearray(b"12"), iter([1]),
                 object(), int, len, Loud(), Greedy()]

NO_INTEGERS = [*NOTHING_USUAL, (), (1,), [], [1]]
