"""What several tests need: values of all kinds, examples, refusals, and slow but plain ways to the same answers."""

from itertools import combinations_with_replacement, product

from gentlerounds import errors


class Own:
    """An object of a class that the program does not know."""


class Echo:
    """An object that says yes to every comparison and looks like a row of one element."""

    def __eq__(self, other):
        return True

    def __lt__(self, other):
        return True

    __le__ = __gt__ = __ge__ = __lt__

    def __len__(self):
        return 1

    def __getitem__(self, index):
        return self

    def __hash__(self):
        return 1


def nested(kind, depth):
    """A value nested so deep: tuples, lists or dicts."""
    value = kind()
    for _ in range(depth - 1):
        value = {"a": value} if kind is dict else kind([value])
    return value


def no_tuples():
    """Values of many kinds, none of them a tuple."""
    return [None, True, False, 0, 1, -1, 10 ** 60, "", "/", "a", "/a", "\n", "\u00e9", b"", b"/a", [], ["/a"], [0, 1],
            [(1, 1)], nested(list, 30), {}, {0: 1}, nested(dict, 30), {1}, frozenset(), Own(), Echo(), Own, len,
            range(3)]


def any_values():
    """Values of many kinds; none is a name, a path, a pattern, a number from 2 on or a row of the document."""
    keep = [value for value in no_tuples() if not (isinstance(value, str) and value) and type(value) is not int]
    return keep + ["\n", "\u00e9", "A", (None,), (True,), ([],), ("",), (b"/a",), (Echo(), Echo()), nested(tuple, 30)]


def no_numbers(low, high=None):
    """Values that are no whole numbers from low up to high."""
    beyond = [high + 1, high + 2, 10 ** 60] if high is not None else []
    return any_values() + ["1", (1,), [1], low - 1, low - 2, -10 ** 60] + beyond


def refusals(test, call, good, wrong, alone=(), last=()):
    """Check the errors of a call.

    good: pairs (name, value) of the signature, in order. wrong: for each name a list of (value, class, told).
    alone: the names that are passed by name alone. last: rows (changes to good, class, told), checked at the end.
    """
    good = dict(good)
    order = list(good)
    right = by_place(call, good, alone)
    test.assertEqual(by_place(call, good, alone), right)
    test.assertEqual(call(**good), right)
    for place, name in enumerate(order):
        for value, kind, told in wrong.get(name, ()):
            changed = {**good, name: value}
            tells(test, kind, told, lambda: by_place(call, changed, alone))
            tells(test, kind, told, lambda: call(**changed))
            for later in order[place + 1:]:
                for worse, _, _ in wrong.get(later, ())[:3]:
                    tells(test, kind, told, lambda: by_place(call, {**changed, later: worse}, alone))
    for changes, kind, told in last:
        tells(test, kind, told, lambda: by_place(call, {**good, **changes}, alone))
        for name in order:
            for value, other, what in wrong.get(name, ()):
                if name not in changes:
                    tells(test, other, what, lambda: by_place(call, {**good, **changes, name: value}, alone))


def by_place(call, named, alone=()):
    """Call with all arguments by position, but for those that go by name alone."""
    return call(*[named[name] for name in named if name not in alone], **{name: named[name] for name in alone})


def tells(test, kind, told, call):
    """Check that the call raises an error of just this class, that keeps just what is told."""
    try:
        answer = call()
    except errors.CrawlError as error:
        test.assertIs(error.__class__, kind)
        if hasattr(error, "given"):
            test.assertIs(error.given, told)
        elif hasattr(error, "index"):
            test.assertEqual(repr(error.index), repr(told))
        else:
            test.assertIsNone(told)
        return
    test.fail(f"{answer!r} instead of {kind.__name__}({told!r})")


def given(kind, values):
    """Rows for `refusals`: each value is told as a whole."""
    return [(value, kind, value) for value in values]


def indexed(kind, rows):
    """Rows for `refusals`: no tuples, told with None, and the rows (value, index)."""
    return [(value, kind, None) for value in no_tuples()] + [(value, kind, index) for value, index in rows]


def run_examples(test, text):
    """Run examples as they stand in the document: each answer has to be the one behind the line."""
    names = dict(vars(errors))
    lines = [line for line in text.split("\n") if line]
    while lines:
        line = lines.pop(0)
        test.assertTrue(line.startswith(">>> "), line)
        answer = []
        while lines and not lines[0].startswith(">>> "):
            answer.append(lines.pop(0))
        check_example(test, line[4:], "\n".join(answer), names)


def check_example(test, line, answer, names):
    if not answer:
        exec(line, names)
    elif answer.startswith("raises "):
        error = eval(answer[7:], names)
        with test.assertRaises(errors.CrawlError) as caught:
            eval(line, names)
        test.assertIs(caught.exception.__class__, error.__class__)
        test.assertEqual(vars(caught.exception), vars(error))
    else:
        test.assertEqual(repr(eval(line, names)), answer)


def fits(row, text):
    """Whether signs can be written for each star of the row so that the text comes of it: all ways are tried."""
    if not row:
        return not text
    if row[0] == "*":
        return any(fits(row[1:], text[many:]) for many in range(len(text) + 1))
    return text[:1] == row[0] and fits(row[1:], text[1:])


def slow_body(pattern):
    return pattern[:-1] if pattern[-1] == "$" else pattern + "*"


def slow_meets(pattern, path):
    return fits(slow_body(pattern), path)


def paths_over(signs, longest):
    """All paths over these signs up to a length, the least first."""
    return ["/" + "".join(row) for many in range(longest) for row in product(signs, repeat=many)]


def patterns_over(signs, longest):
    """All patterns over these signs, up to so many behind the first one, with and without the mark of the end."""
    rows = ["/" + "".join(row) for many in range(longest + 1) for row in product(signs, repeat=many)]
    return rows + [row + "$" for row in rows]


ALL_LIMITS = [(most, wide) for most in range(1, 7) for wide in range(1, 13)]

NO_LIMITS = ["", ((0, 3),), ((7, 3),), ((1, 0),), ((1, 13),), ((True, 3),), ((1, True),), ((1,),), ((1, 2, 3),),
             ([1, 2],),
             [(1, 2)], (1, 2), ((1, 2),) * 5, ((1, 2), None), ((1, 2), ()), (("1", 2),), ((1, "2"),), ((-1, 3),),
             ((1, 2), (1, 2), (1, 2), (2, 13)), (((1, 2),),), {(1, 2): 1}, ((1, 10 ** 50),)]
NO_HOURS = ["", (), (0,), (0, 0, 0), (1, 2), (1, -1), (True,), (1, False), (1,) * 13, (0,) * 12, [1], "1", (1, "1"),
            (1, None),
            ((1,),), ((1,), (1,)), b"1", 1, {1: 1}]


def no_limits():
    return [value for value in no_tuples() + any_values() + NO_LIMITS if not (isinstance(value, tuple) and not value)]


def no_hours():
    return no_tuples() + any_values() + NO_HOURS


def no_rules():
    """Values that are no rules: none of the form, and pairs with one side wrong."""
    pairs = [(value, (1,)) for value in no_limits()] + [(((1, 2),), value) for value in no_hours()]
    return no_tuples() + any_values() + pairs + [(), ((),), ((), (1,), ()), [(), (1,)], ((1,), ())]


def no_asks():
    """Rows for `indexed`: values that are no asks, and the index that is told."""
    bad = any_values() + ["1", (1,), -1, -10 ** 60]
    rows = [((value,), 0) for value in bad] + [((0, 0, value, 9), 2) for value in bad]
    return rows + [((0, 3, 2), 2), ((1, 0), 1), ((0,) * 201, None), ((None,) * 201, None), ((0,) * 199 + (-1,), 199),
                   ((5, 4, None), 1), ((5, None, 4), 1), ((10 ** 60, 10 ** 60 - 1), 1), (nested(tuple, 30), 0)]


def slow_polite(rules, asks):
    """Whether the asks are polite: they are counted in all windows of moments."""
    limits, hours = rules
    if not all(hours[moment % len(hours)] for moment in asks):
        return False
    starts = sorted({moment - back for moment in asks for back in range(13)})
    return all(sum(1 for moment in asks if start <= moment < start + wide) <= most
               for most, wide in limits for start in starts)


def ask_rows(moments, longest):
    """All rows of asks at these moments up to a length."""
    return [row for many in range(longest + 1) for row in combinations_with_replacement(moments, many)]


def some_limits(source, most=6, wide=12, pairs=4):
    """Any limits with numbers up to these."""
    return tuple((source.randint(1, most), source.randint(1, wide)) for _ in range(source.randint(0, pairs)))


def some_hours(source, longest=12):
    while True:
        hours = tuple(source.choice((0, 1, 1)) for _ in range(source.randint(1, longest)))
        if 1 in hours:
            return hours
