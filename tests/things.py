"""Things of many kinds that callers may hand in where a refusal is told."""


class Equal:
    """Equals whatever it is compared with."""

    def __eq__(self, other):
        return True

    def __hash__(self):
        return hash("a")


class Angry:
    """Fails as soon as it is compared, kept as a key, measured, read or shown."""

    def fail(self, *rest):
        raise RuntimeError("asked")

    __eq__ = __hash__ = __bool__ = __len__ = __iter__ = __getitem__ = fail
    __repr__ = __str__ = __format__ = __lt__ = __le__ = __gt__ = __ge__ = __contains__ = fail


def round_list():
    """A list that holds itself."""
    rows = []
    rows.append(rows)
    return rows


# No text, no whole number and no tuple is among them.
ODD_THINGS = [
    True, False, None, 1.5, float("nan"), 2j, b"", b"abc", bytearray(b"abc"),
    [], ["a"], [["a"]], round_list(), {}, {"a": 1}, set(), {"a"}, frozenset(["a"]),
    range(3), iter([1]), object(), object, len, Equal(), Angry(),
]

# Nor is one of these, or of those above, a word.
NO_WORDS = ODD_THINGS + [
    0, 1, -1, 10 ** 6000, (), ("a",), ("a", "b"), (Equal(),), (Angry(),),
    "", "abcdefghijklm", "a" * 1000, "A", "Abc", "abC", "1", "a1", "1a", "a b", " ", " a", "a ",
    "a\n", "\n", "\na", "a\tb", "a_b", "a-b", "a.b", "`", "{", "a`b", "a{b", "@", "[", "\u00e4", "a\u00df",
    "\u0430", "\uff41", "\U0001d41a", "\x00", "a\x00",
]
