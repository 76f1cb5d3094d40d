"""Objects of all sorts, that are right nowhere, and what tells whether a call changed one."""

import copy


def deep(core, wrap):
    """core in 19 wraps."""
    for _ in range(19):
        core = wrap(core)
    return core


def odd_things():
    """New objects that are no name, program, place, stretch, watcher, source or move."""
    return [
        None, True, False, -1, 10 ** 12, -10 ** 12, "", " ", "A", "a b", "a" * 5000, "\n", (), [], {}, (()), [[]],
        (None,), [None], {"a": 1}, {0: 1}, {(0,): [0]}, ("a",), ["a"], ["a", []], (1, 2), ((0, 1), (1, 0)),
        (True, False, True), (False,), [True], [False], [0, None], ["0"], [[0]], [(0,)], {0: True}, ((),) * 5,
        deep(0, lambda core: [core]), deep(0, lambda core: (core,)), deep((), lambda core: {"a": core}),
        deep("a", lambda core: (core, ())), [None] * 99999, (None,) * 99999, ("a",) * 99999,
        {k: None for k in range(49999)}, [{"a": (1, [2, None])}], ("gap", 1), (1, None, 0, 0), (1, None, 0, 0, (), ()),
    ]


def unchanged(case, function, *things):
    """What function answers (or the error it raises), after a look whether it changed a thing."""
    before = copy.deepcopy(things)
    try:
        answer = function(*things)
    except ValueError as error:
        answer = error
    case.assertEqual(repr(before), repr(things))
    return answer
