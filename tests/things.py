"""Objects of all sorts, that are right nowhere, and what tells whether a call changed one."""

from skidblame.sources import Source


def deep(core, wrap):
    """core in 19 wraps."""
    for _ in range(19):
        core = wrap(core)
    return core


def odd_things():
    """New objects that are no name, program, place, stretch, watcher, source or move."""
    return [
        None, True, False, -1, 10 ** 12, -10 ** 12, "", " ", "A", "a b", "a" * 5000, "\n", (), [], {}, (()), [[]],
        (None,), [None], {"a": 1}, {0: 1}, {(0,): [0]}, ("a",), ["a"], ["a", []], (1, 2), ((0, 1), (1, 0)),
        (True, False, True), (False,), [True], [False], [0, None], ["0"], [[0]], [(0,)], {0: True}, ((),) * 5,
        deep(0, lambda core: [core]), deep(0, lambda core: (core,)), deep((), lambda core: {"a": core}),
        deep("a", lambda core: (core, ())), [None] * 99999, (None,) * 99999, ("a",) * 99999,
        {k: None for k in range(49999)}, [{"a": (1, [2, None])}], ("gap", 1), (1, None, 0, 0), (1, None, 0, 0, (), ()),
    ]


def told_of(things):
    """The things as a text, a source by what it tells."""
    return repr([
        (thing.program, thing.watcher, thing.moves, len(thing)) if isinstance(thing, Source) else thing for thing in things
    ])


def unchanged(case, function, *things):
    """What function answers (or the error it raises), after a look whether it changed a thing."""
    before = told_of(things)
    try:
        answer = function(*things)
    except ValueError as error:
        answer = error
    case.assertEqual(before, told_of(things))
    return answer


def no_told_lists():
    """New objects that are no told list, some of them nearly one."""
    near = [("a",), ("a", "b"), "ab", "a", {"a": 0}, {0: "a"}, None, True, 0, ["a", 1], ["a", None], ["a", True],
            ["a", ["b"]], ["a", ("b",)], [["a"]], ["a", ""], ["a", "B"], ["a", "2b"], ["a", "b "], ["a", "abcdefghi"],
            ["a", "b\n"], ["a", "-"], [{}], ["a"] * 99998 + [0], ["a", "a_"]]
    return near + [thing for thing in odd_things() if thing not in ([], ["a"])]


def no_weights(many):
    """New objects that are no weights for so many places, some of them nearly such."""
    right = [0] * many
    near = [right, tuple(right[1:]), tuple([*right, 0]), (*right[1:], True), (False, *right[1:]), (*right[1:], None),
            (*right[1:], "0"), (*right[1:], 10 ** 6 + 1), (*right[1:], -10 ** 6 - 1), (10 ** 12, *right[1:]),
            (-10 ** 12, *right[1:]), (tuple(right),), (*right[1:], (0,)), (*right[1:], [0]), {0: 0}, 0, None, "0" * many]
    return near + [thing for thing in odd_things() if thing != (0,) * many and thing != (1, 2)]


def holders(answer):
    """Each list and dict within an answer, also those that stand in it twice."""
    found = [answer] if isinstance(answer, (list, dict)) else []
    if isinstance(answer, dict):
        answer = [*answer, *answer.values()]
    if isinstance(answer, (list, tuple)):
        for part in answer:
            found.extend(holders(part))
    return found


def no_gains(many, signs):
    """New objects that are no gains for so many places and signs, some of them nearly such."""
    row, rest = (0,) * signs, ((0,) * signs,) * (many - 1)
    near = [[row] * many, rest, (*rest, row, row), (*rest, list(row)), (*rest, row[1:]), (*rest, (*row, 0)), (*rest, None),
            (*rest, 0), (*rest, {0: 0}), (*rest, "0" * signs), ((*row[1:], True), *rest), ((False, *row[1:]), *rest),
            (*rest, (*row[1:], None)), (*rest, (*row[1:], "0")), (*rest, (*row[1:], (0,))), ((*row[1:], [0]), *rest),
            (*rest, (*row[1:], 10 ** 6 + 1)), ((-10 ** 6 - 1, *row[1:]), *rest), (*rest, (10 ** 12, *row[1:])),
            ((*row[1:], -10 ** 12), *rest), {0: row}, row, (row,) * (many + 8), 0, True, None]
    return near + [thing for thing in odd_things() if thing not in (((0, 1), (1, 0)), (1, 2), (False,))]


def no_rules(many, signs):
    """New objects that are no rule for so many places and signs, some of them nearly one."""
    rest = (0,) * (signs - 1)
    near = [[0] * signs, rest, (*rest, 0, 0), (*rest, True), (False, *rest), (*rest, None), (*rest, "0"), (*rest, -1),
            (*rest, many), (10 ** 12, *rest), (*rest, (0,)), (*rest, [0]), {0: 0}, 0, True, None, "a", "0" * signs, ((0,) * signs,)]
    return near + [thing for thing in odd_things() if thing != (1, 2)]


def no_offers(free, taken, many):
    """New objects that are no list of offers, some of them nearly one: of two free places and a marked one of so many."""
    one, other = free
    near = [((one, 1),), (one, 1), [(one, 1), (one, 1)], [(one, 1), (other, 2), (one, 3)], [(taken, 1)], [(one, 1), (taken, 0)],
            [(one, -1)], [(one, -10 ** 12)], [(-1, 1)], [(many, 1)], [(10 ** 12, 1)], [[one, 1]], [(one,)], [(one, 1, 1)], [one],
            [(one, None)], [(one, True)], [(one, False)], [(True, 1)], [(False, 1)], [(None, 1)], [("0", 1)], [(one, "1")],
            [(one, (1,))], [((one,), 1)], [{one: 1}], {one: 1}, {(one, 1): True}, [(one, 1), None], [None], [()], [[]], None, 0, True]
    return near + [thing for thing in odd_things() if thing != []]


def no_choices(many):
    """New objects that are no choice of so many offers, at least two."""
    near = [[], [0], [0, 1], (1, 0), (0, 0), (many,), (0, many), (-1,), (-1, 0), (True,), (0, True), (False,), (None,), ("0",),
            ((0,),), ((),), ([],), {}, {0: 1}, None, 0, True, "", "0", (0, 1, 1), (10 ** 12,)]
    return near + [thing for thing in odd_things() if thing not in ((), (1, 2))]
