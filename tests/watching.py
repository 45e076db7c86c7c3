"""What the tests of each call share: a look at what the module holds, and a call made with little room."""

import copy
import inspect
import sys

from powersums import desk


def kept_values():
    return copy.deepcopy({
        name: (value, getattr(value, "__defaults__", None), getattr(value, "__dict__", None))
        for name, value in vars(desk).items() if not name.startswith("__")
    })


# Taken before any call is made: what was kept by an earlier test's calls would hide in a later look.
AT_FIRST = kept_values()


def with_little_room(call, *inputs):
    """The call's answer where Python allows only some ten calls within one another."""
    limit = sys.getrecursionlimit()
    depth = len(inspect.stack(0))
    sys.setrecursionlimit(depth + 12)
    try:
        return call(*inputs)
    finally:
        sys.setrecursionlimit(limit)
