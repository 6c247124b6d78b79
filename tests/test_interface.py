"""The names, arguments and places of the interface of DOC.md."""

import importlib
import inspect
import unittest

FUNCTIONS = {
    'followrows.clauses': [
        'is_clause(size, thing)',
        'is_writing(thing)',
        'writing_of(inputs, size, first=(), each=(), nexts=(), last=())',
        'flat(writing, many)',
        'cost(writing, many)',
    ],
    'followrows.columns': [
        'all_columns(size)',
        'is_row(size, thing)',
        'is_setting(inputs, thing)',
        'is_word(inputs, thing)',
        'bare(writing, setting)',
        'inputs_of(writing, row)',
        'is_less(one, other)',
    ],
    'followrows.following': [
        'followed(writing, row)',
        'seen(writing, setting)',
    ],
    'followrows.courses': [
        'course(writing, row)',
        'is_course(writing, row, thing)',
        'reason(writing, row, column, sign)',
        'is_reason(writing, row, column, sign, thing)',
    ],
    'followrows.words': [
        'is_written(writing, word)',
        'filling(writing, word)',
        'how_many(writing, word)',
        'has_filling(writing, setting)',
        'words(writing, many)',
    ],
    'followrows.wishes': [
        'is_wish(thing)',
        'at_most(most)',
        'just(most)',
        'apart(gap)',
        'is_wished(wish, word)',
        'can_come(wish, setting)',
        'forced(wish, setting)',
        'both(one, other)',
        'parting_word(one, other)',
    ],
    'followrows.settled': [
        'is_settled(writing, row)',
        'starts(writing)',
        'followers(writing, column)',
        'is_end(writing, column)',
        'standing_of(writing, row)',
        'behind(writing, standing, column)',
        'standings(writing, limit)',
    ],
    'followrows.right': [
        'wrong_word(writing, wish)',
        'is_right(writing, wish)',
        'words_table(writing, wish)',
        'shows_words(writing, wish, thing)',
    ],
    'followrows.ends': [
        'unseen_end(writing, wish)',
        'sees_ends(writing, wish)',
        'ends_table(writing, wish)',
        'shows_ends(writing, wish, thing)',
    ],
    'followrows.forced': [
        'unseen(writing, wish)',
        'sees_all(writing, wish)',
        'all_table(writing, wish)',
        'shows_all(writing, wish, thing)',
    ],
    'followrows.toomuch': [
        'too_much(writing, wish)',
        'is_sound(writing, wish)',
    ],
    'followrows.alike': [
        'parting(one, other)',
        'are_alike(one, other)',
        'sees_more(one, other)',
        'is_closed(writing, setting)',
    ],
    'followrows.spare': [
        'without(writing, part, index)',
        'needless(writing)',
        'with_all(writing, menu)',
        'least_additions(writing, wish, menu)',
    ],
    'followrows.lemmas': [
        'holds(writing, lemma)',
        'is_followed(writing, lemma)',
        'is_kept(writing, lemma)',
        'broken_at(writing, lemma)',
    ],
    'followrows.turned': [
        'mirrored(writing)',
        'flipped(writing, sign)',
        'joined(one, other)',
    ],
    'followrows.runs': [
        'run_told(writing, runs, place)',
        'run_can_come(wish, runs)',
    ],
    'followrows.counts': [
        'count_written(writing, many)',
        'count_wished(wish, many)',
        'count_dead(writing, many)',
        'count_lost(wish, many)',
    ],
    'followrows.texts': [
        'format_writing(writing)',
        'format_wish(wish)',
        'format_setting(setting)',
        'parse_writing(text)',
        'parse_wish(text)',
        'parse_setting(inputs, text)',
    ],
    'followrows.made': [
        'writing_for(wish)',
    ],
}
# The methods as they are called, and the properties without anything behind their names.
CLASSES = {
    'followrows.led': {
        'Led(writing, many)': ['tell(column, sign, value)', 'undo()', 'reason(column, sign)', 'copy()', '__len__()', 'row',
                               'told'],
    },
    'followrows.desk': {
        'Desk(writing, wish)': ['add(part, clause)', 'remove(part, index)', 'undo(*, steps=1)', 'ask(question)', 'kept()',
                                'copy()', '__len__()', 'writing', 'wish', 'searches'],
    },
    'followrows.shell': {
        'Shell()': ['run(line)'],
    },
}


class Interface(unittest.TestCase):

    def test_functions(self):
        for place, lines in FUNCTIONS.items():
            module = importlib.import_module(place)
            for line in lines:
                with self.subTest(line):
                    function = getattr(module, line.partition('(')[0])
                    self.assertEqual(function.__name__ + str(inspect.signature(function)), line)
                    self.assertEqual(function.__module__, place)

    def test_classes(self):
        for place, classes in CLASSES.items():
            module = importlib.import_module(place)
            for line, members in classes.items():
                own = getattr(module, line.partition('(')[0])
                self.assertTrue(inspect.isclass(own))
                self.assertEqual(own.__name__ + str(inspect.signature(own)), line)
                self.assertEqual(own.__module__, place)
                for member in members:
                    with self.subTest(line, member=member):
                        self.check_member(vars(own)[member.partition('(')[0]], member)

    def check_member(self, found, member):
        """Fail unless a class itself has a method that is called like this, or such a property."""
        if '(' not in member:
            self.assertIsInstance(found, property)
            return
        signature = inspect.signature(found)
        signature = signature.replace(parameters=list(signature.parameters.values())[1:])
        self.assertEqual(found.__name__ + str(signature), member)


if __name__ == '__main__':
    unittest.main()
