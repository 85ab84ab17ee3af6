"""The examples of the interface, as they stand."""

import unittest

from trickfares.cards import Card
from trickfares.compare import dearer, most_dearer, never_dearer
from trickfares.console import Console
from trickfares.errors import InvalidText
from trickfares.factors import factor, factor_constant
from trickfares.fares import System
from trickfares.machines import are_alike, smallest, states
from trickfares.nets import best_way, greatest, is_potentials, Net, potentials
from trickfares.past import same_time, worth
from trickfares.safe import safe_values
from trickfares.sharing import cheapest
from trickfares.tricks import gain, histories


class ExampleTest(unittest.TestCase):
    def test_fares(self):
        system = System.parse('slots 4\npeak 1 2\nride a 4 6\nride b 2 2\ntransfer 1 1\nbonus 3')
        self.assertEqual(
            [system.costs('a.b..ab'), system.cost('a'), system.cost('ba'), system.step((1, 0, 0, 2), 'a')],
            [[4, 0, 1, 0, 0, 4, 1], 4, 3, ((1, 2, 0, 0), 0)])

    def test_a_wrong_text(self):
        with self.assertRaises(InvalidText) as caught:
            System.parse('slots 1\nride a 4')
        self.assertEqual(caught.exception.row, 1)

    def test_the_text_of_point_4(self):
        text = 'slots 4\npeak 1 2\nride a 4 6\nride b 2 2\ntransfer 1 1\nbonus 3'
        self.assertEqual(str(System.parse(text)), text)

    def test_machines(self):
        first = System.parse('slots 1\nride a 4 4\nride b 2 2')
        second = System.parse('slots 2\nride a 4 4\nride b 2 2')
        self.assertEqual([states(second), smallest(second), are_alike(first, second)],
                         [[(0, 0, 0, 0), (1, 0, 0, 0)], [((0, 4), (0, 2), (0, 0))], True])

    def test_nets(self):
        net = Net((0,), {(0,): [('x', 2, (1,))], (1,): [('y', -3, (0,))]}, [(0,), (1,)])
        self.assertEqual([potentials(net), greatest(net), best_way(net), is_potentials(net, {(0,): 2, (1,): 0})],
                         [{(0,): 2, (1,): 0}, 2, [('x', 2, (1,))], True])

    def test_compare(self):
        first = System.parse('slots 1\nride a 4 4\nride b 2 2\ntransfer 0 1')
        second = System.parse('slots 1\nride a 4 4\nride b 2 2')
        self.assertEqual(
            [never_dearer(first, second), dearer(first, second), most_dearer(first, second), most_dearer(second, first)],
            [True, None, 0, None])

    def test_tricks(self):
        system = System.parse('slots 1\nride a 4 4\nride b 2 2\ntransfer 0 1')
        self.assertEqual([gain(system, trick) for trick in ('more', 'later', 'earlier', 'cards', 'shared')],
                         [1, 3, 3, 0, None])
        self.assertEqual(histories(system, 'more', [(('more', 'b'), -2, (0, 1)), ('a', 3, (1, 1))]), ('a', ['ba']))

    def test_factors(self):
        first = System.parse('slots 1\nride a 4 4\nride b 2 2\ntransfer 0 1')
        second = System.parse('slots 1\nride a 4 4\nride b 2 2')
        self.assertEqual([factor(second, first), factor_constant(second, first), factor(first, second)],
                         [(4, 1), 0, (1, 1)])

    def test_past(self):
        system = System.parse('slots 1\nride a 4 4\nride b 2 2\ntransfer 0 1')
        self.assertEqual([worth(system, 0, 1), worth(system, 1, 0), same_time(system)], [3, 0, [(0, 1), (1, 0)]])

    def test_sharing(self):
        system = System.parse('slots 1\nride a 4 4\nride b 2 2\nbonus 3')
        self.assertEqual([cheapest(system, 'aaba', cards)[0] for cards in (1, 2)], [12, 10])

    def test_safe(self):
        system = System.parse('slots 1\nride a 4 4\nride b 2 2\ntransfer 0 1')
        self.assertIs(safe_values(system, 'more', 'transfer') == list(range(2, 21)), True)

    def test_cards(self):
        card = Card(System.parse('slots 1\nride a 4 4\nride b 2 2\ntransfer 0 1'))
        self.assertEqual(
            [card.tap('a'), card.missed(0, 'b'), card.history, card.total, card.next_costs(), card.wrong(1)],
            [4, -1, 'ba', 3, {'a': 1, 'b': 1}, -1])

    def test_console(self):
        console = Console()
        kept = console.answer('system old\nslots 1\nride a 4 4\nride b 2 2\ntransfer 0 1')
        self.assertEqual(
            [kept, console.answer('cost old ba'), console.answer('trick old shared'), console.answer('compare old old')],
            ['ok', '3', 'unbounded', '0'])


if __name__ == "__main__":
    unittest.main()
