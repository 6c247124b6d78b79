"""The examples of DOC.md for the stages that have landed, as they stand there."""

import unittest

EXAMPLES = """
>>> from followrows.clauses import cost, flat, is_clause, writing_of
>>> ladder = writing_of(1, 2, each=[(-1, 2)], nexts=[(-2, 4), (-3, -2)])
>>> ladder
(1, 2, (), ((-1, 2),), ((-2, 4), (-3, -2)), ())
>>> [is_clause(2, (-2, 1)), is_clause(2, (1, -2)), is_clause(2, (-1, 1))]
[True, False, False]
>>> flat(ladder, 2)
[(-1, 2), (-3, 4), (-2, 4), (-3, -2)]
>>> cost(ladder, 10 ** 20)
(200000000000000000000, 299999999999999999998)

>>> from followrows.columns import all_columns, bare, inputs_of, is_less, is_setting
>>> all_columns(1)
[(None,), (False,), (True,)]
>>> bare(ladder, [(None,), (True,)])
[(None, None), (True, None)]
>>> inputs_of(ladder, [(None, False), (True, None)])
[(None,), (True,)]
>>> [is_less([(True,)], [(None,), (None,)]), is_less([(True,)], [(False,)]), is_setting(1, [])]
[True, False, False]
"""


def split_examples(text):
    """Return the list of the pairs of a line of code and the answer that stands behind it, or None."""
    pairs = []
    for line in text.split('\n'):
        if line.startswith('>>> '):
            pairs.append((line[4:], None))
        elif line:
            pairs[-1] = (pairs[-1][0], line)
    return pairs


class Examples(unittest.TestCase):

    def test_all(self):
        names = {}
        for code, answer in split_examples(EXAMPLES):
            with self.subTest(code):
                if answer is None:
                    exec(code, names)
                else:
                    self.assertEqual(repr(eval(code, names)), answer)


if __name__ == '__main__':
    unittest.main()
