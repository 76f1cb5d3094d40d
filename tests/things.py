"""Objects of all sorts, that are right nowhere, and what tells whether a call changed one."""

from skidblame.sources import Source


def deep(core, wrap):
    """core in 19 wraps."""
    for _ in range(19):
        core = wrap(core)
    return core


def odd_things():
    """New objects that are no name, program, place, stretch, watcher, source or move."""
    return [
        None, True, False, -1, 10 ** 12, -10 ** 12, "", " ", "A", "a b", "a" * 5000, "\n", (), [], {}, (()), [[]],
        (None,), [None], {"a": 1}, {0: 1}, {(0,): [0]}, ("a",), ["a"], ["a", []], (1, 2), ((0, 1), (1, 0)),
        (True, False, True), (False,), [True], [False], [0, None], ["0"], [[0]], [(0,)], {0: True}, ((),) * 5,
        deep(0, lambda core: [core]), deep(0, lambda core: (core,)), deep((), lambda core: {"a": core}),
        deep("a", lambda core: (core, ())), [None] * 99999, (None,) * 99999, ("a",) * 99999,
        {k: None for k in range(49999)}, [{"a": (1, [2, None])}], ("gap", 1), (1, None, 0, 0), (1, None, 0, 0, (), ()),
    ]


def told_of(things):
    """The things as a text, a source by what it tells."""
    return repr([
        (thing.program, thing.watcher, thing.moves, len(thing)) if isinstance(thing, Source) else thing for thing in things
    ])


def unchanged(case, function, *things):
    """What function answers (or the error it raises), after a look whether it changed a thing."""
    before = told_of(things)
    try:
        answer = function(*things)
    except ValueError as error:
        answer = error
    case.assertEqual(before, told_of(things))
    return answer


def no_told_lists():
    """New objects that are no told list, some of them nearly one."""
    near = [("a",), ("a", "b"), "ab", "a", {"a": 0}, {0: "a"}, None, True, 0, ["a", 1], ["a", None], ["a", True],
            ["a", ["b"]], ["a", ("b",)], [["a"]], ["a", ""], ["a", "B"], ["a", "2b"], ["a", "b "], ["a", "abcdefghi"],
            ["a", "b\n"], ["a", "-"], [{}], ["a"] * 99998 + [0], ["a", "a_"]]
    return near + [thing for thing in odd_things() if thing not in ([], ["a"])]


def no_weights(many):
    """New objects that are no weights for so many places, some of them nearly such."""
    right = [0] * many
    near = [right, tuple(right[1:]), tuple([*right, 0]), (*right[1:], True), (False, *right[1:]), (*right[1:], None),
            (*right[1:], "0"), (*right[1:], 10 ** 6 + 1), (*right[1:], -10 ** 6 - 1), (10 ** 12, *right[1:]),
            (-10 ** 12, *right[1:]), (tuple(right),), (*right[1:], (0,)), (*right[1:], [0]), {0: 0}, 0, None, "0" * many]
    return near + [thing for thing in odd_things() if thing != (0,) * many and thing != (1, 2)]


def holders(answer):
    """Each list and dict within an answer, also those that stand in it twice."""
    found = [answer] if isinstance(answer, (list, dict)) else []
    if isinstance(answer, dict):
        answer = [*answer, *answer.values()]
    if isinstance(answer, (list, tuple)):
        for part in answer:
            found.extend(holders(part))
    return found
