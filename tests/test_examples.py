"""The examples of the document, each with the very result or error that is written there."""

import unittest

EXAMPLES = (
    (4, """
    >>> from tailranks.words import is_word, word_error
    >>> [is_word('banana'), is_word(''), word_error('abC'), word_error(['a'])]
    [True, False, (2, 'letter'), (None, 'word')]
    """),
    (4, """
    >>> from tailranks.words import tail_order, tail_ranks
    >>> [tail_order('banana'), tail_ranks('banana'), tail_order('aab')]
    [(5, 3, 1, 0, 4, 2), (3, 2, 5, 1, 4, 0), (0, 1, 2)]
    """),
    (4, """
    >>> from tailranks.words import comes_before
    >>> [comes_before('banana', 3, 1), comes_before('banana', 1, 3), comes_before('banana', 1, 1)]
    [True, False, False]
    """),
    (4, """
    >>> from tailranks.words import agreed
    >>> [agreed('ab'), agreed('aab', 'aba')]
    [((0, 1),), ((0, 1),)]
    """),
    (5, """
    >>> from tailranks.orders import is_order, order_error
    >>> [is_order((1, 0)), order_error((0, 0)), order_error((0, 2)), order_error(())]
    [True, (1, 'place'), (1, 'place'), (None, 'order')]
    """),
    (5, """
    >>> from tailranks.orders import ranks_of, strict_steps
    >>> [ranks_of((2, 0, 1)), strict_steps((2, 0, 1)), strict_steps((5, 3, 1, 0, 4, 2)), strict_steps((0, 1, 2))]
    [(1, 2, 0), (2,), (3, 4), (2,)]
    """),
    (5, """
    >>> from tailranks.orders import fewest_letters, least_word
    >>> [least_word((5, 3, 1, 0, 4, 2)), fewest_letters((0, 1, 2)), least_word((0, 1, 2)), least_word((2, 1, 0))]
    ['bacaca', 2, 'aab', 'aaa']
    """),
    (5, """
    >>> from tailranks.orders import find_difference
    >>> [find_difference('banana', 'bacaca'), find_difference('aab', 'abb'), find_difference('aab', 'aba')]
    [None, (1, 2), (0, 2)]
    """),
    (5, """
    >>> from tailranks.orders import grown, shrunk
    >>> [shrunk((5, 3, 1, 0, 4, 2)), grown((4, 2, 0, 3, 1), 3)]
    [(4, 2, 0, 3, 1), (5, 3, 1, 0, 4, 2)]
    """),
    (6, """
    >>> from tailranks.fillings import count_fillings
    >>> [count_fillings((0, 1, 2), 1), count_fillings((0, 1, 2), 2), count_fillings((2, 1, 0), 2), count_fillings((0, 1, 2), 26)]
    [0, 1, 4, 2925]
    """),
    (6, """
    >>> from tailranks.fillings import filling_at, filling_index
    >>> [filling_at((2, 1, 0), 2, 0), filling_at((2, 1, 0), 2, 1), filling_index('bba', 2)]
    ['aaa', 'baa', 2]
    """),
    (6, """
    >>> from tailranks.fillings import filling_at
    >>> filling_at((0, 1, 2), 2, 1)
    raises NoIndex(1)
    """),
    (6, """
    >>> from tailranks.fillings import each_filling
    >>> list(each_filling((2, 1, 0), 2))
    ['aaa', 'baa', 'bba', 'bbb']
    """),
    (6, """
    >>> from tailranks.fillings import count_orders
    >>> [count_orders(1, 0), [count_orders(3, 0), count_orders(3, 1), count_orders(3, 2)], count_orders(4, 4)]
    [1, [1, 4, 1], 0]
    """),
    (7, """
    >>> from tailranks.factors import is_simple
    >>> [is_simple('aab'), is_simple('aba'), is_simple('aa'), is_simple('b')]
    [True, False, False, True]
    """),
    (7, """
    >>> from tailranks.factors import factor_places, factors
    >>> [factor_places((5, 3, 1, 0, 4, 2)), factors('banana'), factors('abcab')]
    [(0, 1, 3, 5), ('b', 'an', 'an', 'a'), ('abc', 'ab')]
    """),
    (7, """
    >>> from tailranks.factors import longest_simple
    >>> longest_simple((5, 3, 1, 0, 4, 2))
    (1, 2, 1, 2, 1, 1)
    """),
    (7, """
    >>> from tailranks.factors import cut_holds
    >>> [cut_holds('abab', ('ab', 'ab')), cut_holds('abab', ('abab',)), cut_holds('aab', ('a', 'ab'))]
    [True, False, False]
    """),
    (7, """
    >>> from tailranks.factors import least_turn
    >>> [least_turn('banana'), least_turn('bab'), least_turn('abab')]
    [5, 1, 0]
    """),
    (8, """
    >>> from tailranks.heads import common_length
    >>> [common_length('banana', 1, 3), common_length('banana', 0, 1), common_length('banana', 2, 2)]
    [3, 0, 4]
    """),
    (8, """
    >>> from tailranks.heads import heads_of
    >>> [heads_of('banana'), heads_of('a')]
    [(1, 3, 0, 0, 2), ()]
    """),
    (8, """
    >>> from tailranks.heads import rebuilt
    >>> [rebuilt((5, 3, 1, 0, 4, 2), (1, 3, 0, 0, 2)), rebuilt((5, 3, 1, 0, 4, 2), (1, 2, 0, 0, 2)), rebuilt((1, 0), (0,))]
    ['bacaca', None, 'ba']
    """),
    (8, """
    >>> from tailranks.heads import count_parts, part_at, part_index
    >>> [count_parts('banana'), part_at('banana', 0), part_at('banana', 4), part_index('banana', 'nan'), part_index('banana', 'ab')]
    [15, 'a', 'anana', 13, None]
    """),
    (8, """
    >>> from tailranks.heads import each_part
    >>> list(each_part('aba'))
    ['a', 'ab', 'aba', 'b', 'ba']
    """),
    (8, """
    >>> from tailranks.heads import longest_twice
    >>> [longest_twice('banana'), longest_twice('abc')]
    [('ana', (1, 3)), None]
    """),
    (9, """
    >>> from tailranks.patterns import find, places_of
    >>> [find('banana', 'an'), find('banana', 'bb'), places_of('banana', 'an'), places_of('banana', 'bb')]
    [('places', 1, 3), ('between', 4), (1, 3), ()]
    """),
    (9, """
    >>> from tailranks.patterns import finding_holds
    >>> [finding_holds('banana', 'an', ('places', 1, 3)), finding_holds('banana', 'an', ('places', 1, 2)), finding_holds('banana', 'bb', ('between', 4))]
    [True, False, True]
    """),
    (9, """
    >>> from tailranks.patterns import each_place
    >>> list(each_place('banana', 'an'))
    [3, 1]
    """),
    (9, """
    >>> from tailranks.patterns import select
    >>> [select('banana', letter='a'), select('banana', factor=True, letter='a'), select('banana', strict=True), select('ab')]
    [(1, 3, 5), (1, 3, 5), (0, 4), (0, 1)]
    """),
    (10, """
    >>> from tailranks.far import far_before, far_letter
    >>> [far_letter('ab', 10 ** 12, 7), far_before('ab', 10 ** 12, 0, 2), far_before('ab', 10 ** 12, 2, 0)]
    ['b', False, True]
    """),
    (10, """
    >>> from tailranks.far import far_place, far_rank
    >>> [far_rank('ab', 10 ** 12, 0), far_rank('ab', 10 ** 12, 2 * 10 ** 12 - 1), far_place('ab', 10 ** 12, 0)]
    [999999999999, 1000000000000, 1999999999998]
    """),
    (10, """
    >>> from tailranks.far import count_places, place_at
    >>> [count_places('ab', 10 ** 12, 'ba'), place_at('ab', 10 ** 12, 'ba', 5)]
    [999999999999, 11]
    """),
    (11, """
    >>> from tailranks.desks import Desk
    >>> str(Desk('banana'))
    '6 letters, 0 edits'
    """),
    (11, """
    >>> from tailranks.desks import Desk
    >>> [Desk.read('word banana').word, Desk.is_edit(('grow', 5)), Desk.is_edit(('shrink', 0))]
    ['banana', True, False]
    """),
    (11, """
    >>> from tailranks.desks import Desk
    >>> desk = Desk('anana')
    >>> [desk.look('an'), desk.grow('b'), desk.found, desk.order, desk.pattern]
    [(0, 2), 1, (1, 3), (5, 3, 1, 0, 4, 2), 'an']
    """),
    (11, """
    >>> from tailranks.desks import Desk
    >>> Desk('banana').look('aN')
    raises BadWord((1, 'letter'))
    """),
    (11, """
    >>> from tailranks.desks import Desk
    >>> desk = Desk('ana')
    >>> [desk.grow('b'), desk.change(3, 'd'), desk.shrink(), desk.word]
    [1, 2, 3, 'and']
    """),
    (11, """
    >>> from tailranks.desks import Desk
    >>> desk = Desk('ana')
    >>> [desk.shrink(), desk.undo(), desk.word]
    [1, 0, 'ana']
    """),
    (11, """
    >>> from tailranks.desks import Desk
    >>> desk = Desk('ana')
    >>> desk.run([('grow', 'b'), ('change', 9, 'a')])
    raises Rejected(1)
    """),
    (11, """
    >>> from tailranks.desks import Desk
    >>> desk = Desk('ana')
    >>> [desk.grow('b'), desk.rank_of(0), desk.word_at(0), desk.edits(), list(desk.walk())]
    [1, 2, 'ana', (('grow', 'b'),), [(0, 'ana'), (1, 'bana')]]
    """),
    (11, """
    >>> from tailranks.desks import Desk
    >>> desk = Desk('banana')
    >>> [desk[0], 'nan' in desk, 'x' in desk, 5 in desk, desk < Desk('c'), desk('an')]
    ['b', True, False, False, True, ('places', 1, 3)]
    """),
    (11, """
    >>> from tailranks.desks import Desk
    >>> [len(Desk('ana')), Desk('ana') == Desk('ana'), Desk('ana') == 'ana', Desk('a').copy().word]
    [3, True, False, 'a']
    """),
    (12, """
    >>> from tailranks.desks import SimpleDesk
    >>> desk = SimpleDesk('ab')
    >>> [desk.grow('a'), desk.change(1, 'b')]
    [1, 2]
    """),
    (12, """
    >>> from tailranks.desks import SimpleDesk
    >>> SimpleDesk('aba')
    raises NotSimple(2)
    """),
    (12, """
    >>> from tailranks.desks import LoggedDesk
    >>> desk = LoggedDesk('ana')
    >>> [desk.run([('grow', 'b'), ('shrink',)]), desk.undo(), desk.log]
    [2, 1, (('run', 2), ('undo', 1))]
    """),
    (12, """
    >>> from tailranks.desks import LoggedDesk, LoggedSimpleDesk, SimpleDesk
    >>> desk = LoggedSimpleDesk.read('word ab')
    >>> [isinstance(desk, SimpleDesk), isinstance(desk, LoggedDesk), desk.log]
    [True, True, ()]
    """),
    (13, """
    >>> from tailranks.texts import order_text, places_text, word_text
    >>> [word_text('ana'), order_text((2, 0, 1)), places_text((1, 3)), places_text(())]
    ['word ana', 'order 2 0 1', '1 3', 'none']
    """),
    (13, """
    >>> from tailranks.texts import parse_order, parse_word
    >>> [parse_word('word ana'), parse_order('order 1 0')]
    ['ana', (1, 0)]
    """),
    (13, """
    >>> from tailranks.texts import parse_order
    >>> parse_order('order 1 x')
    raises BadText(2)
    """),
    (14, """
    >>> from tailranks.consoles import Console
    >>> from tailranks.desks import Desk
    >>> console = Console(Desk('anana'))
    >>> [console.execute('grow b'), console.execute('grow B'), console.execute('look an'), console.execute('factors'), console.execute('rank 6')]
    ['ok 1', 'error BadLetter', '1 3', 'b an an a', 'error NoPlace']
    """),
    (14, """
    >>> from tailranks.consoles import Console
    >>> from tailranks.desks import Desk
    >>> console = Console(Desk('a'))
    >>> [console.execute('word'), console.execute(5), console.history]
    ['word a', 'unknown command', (('word', 'word a'), (None, 'unknown command'))]
    """),
)


def told_by(session):
    """The last line of a session: the repr of the last expression, or the error that it raises."""
    *before, last = [line[4:] for line in session if line.startswith(">>> ")]
    names = {}
    for line in before:
        exec(line, names)
    try:
        return repr(eval(last, names))
    except (ValueError, LookupError) as error:
        fields = ", ".join(repr(field) for field in vars(error).values())
        return f"raises {type(error).__name__}({fields})"


class ExamplesTest(unittest.TestCase):
    def test_all(self):
        for point, example in EXAMPLES:
            session = [line.strip() for line in example.strip().split("\n")]
            with self.subTest(point=point, session=session):
                self.assertEqual(told_by(session), session[-1])
                self.assertEqual(told_by(session), session[-1])

    def test_points(self):
        """Every point with examples is here."""
        self.assertEqual({point for point, example in EXAMPLES}, {4, 5, 6, 7, 8, 9, 10, 11, 12, 13, 14})


if __name__ == "__main__":
    unittest.main()
