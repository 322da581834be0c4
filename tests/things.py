"""What the tests share: things of all kinds, and ways to ask for refusals."""

import inspect

from nightpaper import errors


def nested(times):
    """Lists, tuples and dicts, so many within one another."""
    thing = "a"
    for step in range(times):
        thing = ([thing], (thing,), {"a": thing})[step % 3]
    return thing


NO_TEXTS = [
    None, True, False, 0, 1, 5, 23, -1, 295, 10 ** 30, -10 ** 30, 10 ** 5000,
    (), [], {}, ("a",), ["a"], {"a": "a"}, ("0-00-00",), ["0-00-00"], ["0", "00", "00"],
    ["0", "0", "0", "0"], ("0", "0", "0", "0"), {"0": 0, "1": 1, "2": 2, "3": 3}, [0, 1, 2, 3],
    [[]], ((),), [{}], {"a": [("b", {"c": [None, True, 1]})]}, nested(29), nested(30),
]

ODD_TEXTS = [
    "", " ", "\n", "-", "--", "---", "~", "_", "/", ".", "a\n", "\na", "a b", "A", "0", "1", "00", "a1", "{", "}",
]


def refusal(wanted, call, *places, **named):
    """The refusal that a call meets, which must be of this very class; AssertionError where it is told something."""
    try:
        told = call(*places, **named)
    except wanted as met:
        if type(met) is not wanted:
            raise AssertionError(f"{type(met)} in the place of {wanted}") from met
        return met
    raise AssertionError(f"{told!r} told in the place of {wanted.__name__}")


def own_errors():
    """All classes that errors.py has, by names."""
    return {name: thing for name, thing in vars(errors).items() if inspect.isclass(thing)}
