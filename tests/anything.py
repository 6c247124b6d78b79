"""Objects of all kinds that DOC.md means by "any object", and ways to look at calls."""

import copy

LONG = 10 ** 40 - 1


def nested(depth, wrap):
    """Return an object that is wrapped so many times."""
    thing = None
    for _ in range(depth):
        thing = wrap(thing)
    return thing


def strange_objects():
    """Return new objects none of which is a part, a size or a whole of anything promised."""
    return [
        None, True, False, 0, -1, 5, 17, LONG, -LONG, 10 ** 20,
        '', 'a', '1', 'first', 'None', 'inputs 1 size 2', 'tab\tand\nline feed', '~' * 300,
        (None, 1), (True, 2), ((),), ((), ()), (0,), (LONG,), (-LONG,), ('a',), ([],), ({},), ((1,), 1),
        (1, 2, (), (), ()), (1, 2, (), (), (), (), ()),
        [], [0], [1], [None], [True], ['a'], [()], [[]], [[None]], [{}], [(0,)], [('None',)], [([],)], [(1, True)],
        {}, {'a': 1}, {1: 2}, {0: (None,)}, {(1, 'a', (None, True, ())): [(None,)]}, {'first': ()},
        nested(20, lambda thing: (thing,)),
        nested(20, lambda thing: [thing]),
        nested(20, lambda thing: {'a': thing}),
        nested(10, lambda thing: [(thing,)]),
        tuple(range(1, 4900)), list(range(1, 4900)), [LONG] * 4900, [[]] * 4900, {k: k for k in range(2000)},
        'a' * 4900,
    ]


def with_place(whole, place, thing):
    """Return a tuple or list with an object in place of another one."""
    parts = list(whole)
    parts[place] = thing
    return tuple(parts) if isinstance(whole, tuple) else parts


def shown(things):
    """Return a text in which objects that are equal but of unlike kinds (1, True) differ, too."""
    return repr(things)


def leaves_alone(test, function, *arguments):
    """Call a function, and fail unless its arguments stay as they are; return or raise what it does."""
    before = copy.deepcopy(arguments)
    try:
        return function(*arguments)
    finally:
        test.assertEqual(shown(arguments), shown(before))


def raises(test, error, function, *arguments):
    """Fail unless a call raises just this error class and leaves its arguments as they are."""
    with test.assertRaises(error) as caught:
        leaves_alone(test, function, *arguments)
    test.assertIs(caught.exception.__class__, error)
