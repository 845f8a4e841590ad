"""Values of many kinds, for the tests of what is refused."""


class Stubborn:
    """Refuses all that a careless test might ask of it."""

    __hash__ = None

    def _refuse(self, *told):
        raise RuntimeError("not to be asked")

    __eq__ = __ne__ = __lt__ = __le__ = __gt__ = __ge__ = _refuse
    __len__ = __iter__ = __bool__ = __getitem__ = __contains__ = _refuse
    __int__ = __index__ = __add__ = __call__ = _refuse


def nested(depth):
    thing = ()
    for _ in range(depth):
        thing = (thing,)
    return thing


def odd_values():
    """A fresh list of values; none is names, a paper, a range, a roll or a number from 1 on."""
    return [
        None, True, False, 0, -1, -10 ** 999,
        "", " ", "a b", "A", "a" * 20000, b"", b"a",
        (), (None,), (True,), (0,), ("",), ("A",), ("a ",), (b"a",), ("a1",), ((("a",),),),
        (None, None), (1, "a"), ("a", 1), (True, False), ({}, {}), ([], set()),
        (Stubborn(),), (Stubborn(), Stubborn()), ("a", Stubborn()), (Stubborn(), "a"),
        ("a", "a"), ("a",) * 20000, nested(49),
        [], [None], ["a"], ["a", "b"], [("a",)], [Stubborn()],
        {}, {"a": 1}, {("a",): 1}, set(), {"a", "b"}, frozenset(["a", "b"]),
        range(3), iter(()), (name for name in "ab"), slice(1, 2), Ellipsis, NotImplemented,
        object(), Stubborn(), len, odd_values, Stubborn, int, ValueError("a"),
    ]


def odd_numbers():
    """Values that are no integers from 1 on, or not at all."""
    return odd_values() + ["1", b"1", [1], (1,), {1: 1}, {1}]
