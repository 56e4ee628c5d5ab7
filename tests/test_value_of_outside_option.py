import unittest
from fractions import Fraction
from math import gcd

from leaveoffers.offers import payoff, value_of_outside_option
from negotiations import (EXAMPLE, LARGEST, EveryOperation, Terms, Untouchable, answer, changed, drawn_rounds,
                          mirrored, negotiations_outside_the_limits, untouchable, without_option)

NOTHING = [0, 0, 1]


def found(negotiation, player, the_round=0):
    return value_of_outside_option(the_round=the_round, player=player, **negotiation)


def by_payoff(negotiation, player, the_round=0):
    with_it = payoff(the_round=the_round, player=player, **negotiation)
    without = payoff(the_round=the_round, player=player, **without_option(negotiation, player))
    return answer(Fraction(*with_it[1:]) - Fraction(*without[1:]))


class Examples(unittest.TestCase):
    call = ([0], [1, 2, 1, 2], [2, 4], [1, 4, 0, 0, 0, 3, 1, 0])

    def test_the_document(self):
        self.assertEqual(value_of_outside_option(10, 0, 1, *self.call), [0, 3, 2])

    def test_the_other_player_has_none(self):
        self.assertEqual(value_of_outside_option(10, 0, 0, *self.call), [0, 0, 1])

    def test_a_missing_round_and_a_missing_player(self):
        self.assertEqual(value_of_outside_option(10, 1, 1, *self.call), [-2])
        self.assertEqual(value_of_outside_option(10, 0, 2, *self.call), [-2])


class Differences(unittest.TestCase):
    def assert_differences(self, negotiation, *expected):
        """The answers for player 0 and player 1 in all rounds, whichever of the two is called 0."""
        for the_round, values in enumerate(expected):
            for player in (0, 1):
                value = [0, values[player][0], values[player][1]]
                self.assertEqual(found(negotiation, player, the_round), value, (negotiation, the_round, player))
                self.assertEqual(found(mirrored(negotiation), 1 - player, the_round), value)
        self.assertEqual(len(expected), len(negotiation["proposers"]))


class OneRound(Differences):
    def test_above_zero(self):
        self.assert_differences(EXAMPLE, [(0, 1), (3, 2)])
        self.assert_differences(changed(proposers=[1], extra=[1, 4, 0, 0, 3, 0, 0, 0]), [(9, 4), (0, 1)])
        self.assert_differences(changed(extra=[1, 4, 0, 0, 0, 1000, 0, 0]), [(0, 1), (1997, 2)])

    def test_an_outside_option_at_and_beside_the_continuation_value(self):
        # The continuation value is 2.
        for option, expected in ((0, 0), (1, 0), (2, 0), (3, 1), (4, 2)):
            self.assert_differences(changed(extra=[0, 1, 0, 0, 0, option, 0, 0]), [(0, 1), (expected, 1)])

    def test_the_proposer_has_no_use_of_an_outside_option_in_the_last_round(self):
        self.assert_differences(changed(extra=[1, 4, 0, 0, 1000, 3, 1, 0]), [(0, 1), (3, 2)])

    def test_a_continuation_value_of_zero(self):
        self.assert_differences(changed(extra=[1, 1, 0, 0, 5, 5, 0, 0]), [(0, 1), (5, 1)])
        self.assert_differences(changed(final=[0, 0], extra=[0, 1, 0, 0, 0, 0, 9, 9]), [(0, 1), (0, 1)])

    def test_lowest_terms(self):
        # The continuation value is 9/4.
        negotiation = changed(discounts=[50, 100, 30, 90], final=[0, 7], extra=[20, 80, 0, 2, 0, 3, 0, 0])
        self.assert_differences(negotiation, [(0, 1), (3, 4)])


class SeveralRounds(Differences):
    def test_above_zero_as_proposer_and_as_responder(self):
        # The payoffs are (9, 1) and (8, 2); without the outside option of player 0, (11/2, 9/2) and (1, 9).
        self.assert_differences(
            changed(proposers=[0, 1], extra=[0, 1, 0, 0, 8, 0, 0, 0]), [(7, 2), (0, 1)], [(7, 1), (0, 1)])

    def test_below_zero_as_proposer_and_as_responder(self):
        # The abandoned payoff makes player 0 strong in the last round, and so in those before it.
        # The payoffs are (14, 3), (7, 3) and (14, 3); without the outside option, (4, 6), (4, 6) and (8, 2).
        self.assert_differences(
            changed(proposers=[0, 1, 0], discounts=[1, 2, 1, 1], final=[0, 2], extra=[0, 1, 0, 0, 0, 3, 14, 0]),
            [(0, 1), (-3, 1)], [(0, 1), (-3, 1)], [(0, 1), (1, 1)])

    def test_below_zero_in_lowest_terms(self):
        # The payoffs are (9, 3/2) and (9, 3); without the outside option, (8, 2) and (8, 2).
        self.assert_differences(
            changed(proposers=[1, 0], discounts=[1, 1, 1, 2], final=[0, 4], extra=[0, 1, 0, 0, 0, 3, 9, 0]),
            [(0, 1), (-1, 2)], [(0, 1), (1, 1)])

    def test_both_players_have_an_outside_option(self):
        # The payoffs are (6, 4) and (6, 4). Without player 0's they are (11/2, 9/2) and (1, 9), without player 1's
        # (8, 2) and (6, 4); without both, player 1 would have 9/2 in the first round.
        self.assert_differences(
            changed(proposers=[0, 1], extra=[0, 1, 0, 0, 6, 4, 0, 0]), [(1, 2), (2, 1)], [(5, 1), (0, 1)])

    def test_an_outside_option_is_zero_in_every_round(self):
        # Player 1 responds in all rounds: with 3 in each, without the outside option with 1/2, 1 and 2.
        self.assert_differences(
            changed(proposers=[0, 0, 0], extra=[0, 1, 0, 0, 0, 3, 0, 0]),
            [(0, 1), (5, 2)], [(0, 1), (2, 1)], [(0, 1), (1, 1)])

    def test_an_outside_option_that_counts_before_the_given_round_only(self):
        # Player 1 responds in the first round, with 2 instead of 1/2; behind it player 0 does.
        self.assert_differences(
            changed(proposers=[0, 1], discounts=[1, 2, 1, 20], extra=[0, 1, 0, 0, 0, 2, 0, 0]),
            [(0, 1), (31, 20)], [(0, 1), (0, 1)])


class TwelveRounds(unittest.TestCase):
    def test_half_of_the_next_round(self):
        # With the outside option player 1 has all in each round, without it 683/2048, 683/1024, .., 1/2, 1.
        negotiation = changed(amount=1, proposers=[0, 1] * 6, final=[0, 0], extra=[0, 1, 0, 0, 0, 1, 0, 0])
        expected = {0: [0, 1365, 2048], 1: [0, 341, 1024], 10: [0, 1, 2], 11: [0, 0, 1]}
        for the_round, value in expected.items():
            self.assertEqual(found(negotiation, 1, the_round), value)
            self.assertEqual(found(mirrored(negotiation), 0, the_round), value)
            self.assertEqual(found(negotiation, 0, the_round), NOTHING)

    def test_large_denominators(self):
        negotiation = changed(
            amount=1000, proposers=[0, 1, 1, 0] * 3, discounts=[89, 99, 67, 97], final=[87, 166],
            extra=[7, 100, 100, 802, 52, 217, 870, 353])
        signs = set()
        for the_round in range(12):
            for player in (0, 1):
                value = found(negotiation, player, the_round)
                bare = Terms(without_option(negotiation, player), the_round)
                self.assertEqual(
                    value, answer(Terms(negotiation, the_round).payoffs[player] - bare.payoffs[player]))
                signs.add((value[1] > 0) - (value[1] < 0))
        self.assertEqual(signs, {-1, 0, 1})


class ByTheWords(unittest.TestCase):
    """Many negotiations against the document's terms."""

    @classmethod
    def setUpClass(cls):
        cls.rounds = drawn_rounds(500)
        cls.rounds += [(mirrored(negotiation), the_round, Terms(mirrored(negotiation), the_round))
                       for negotiation, the_round, terms in cls.rounds]

    def test_differences(self):
        for negotiation, the_round, terms in self.rounds:
            for player in (0, 1):
                bare = Terms(without_option(negotiation, player), the_round)
                self.assertEqual(found(negotiation, player, the_round),
                                 answer(terms.payoffs[player] - bare.payoffs[player]),
                                 (negotiation, the_round, player))

    def test_it_fits_the_payoff(self):
        for negotiation, the_round, terms in self.rounds:
            for player in (0, 1):
                self.assertEqual(found(negotiation, player, the_round), by_payoff(negotiation, player, the_round))

    def test_every_sign_occurs_for_each_player_in_each_part(self):
        seen = set()
        for negotiation, the_round, terms in self.rounds:
            for player in (0, 1):
                numerator = found(negotiation, player, the_round)[1]
                seen.add((player, player == terms.proposer, (numerator > 0) - (numerator < 0)))
        self.assertEqual(seen, {(player, proposes, sign) for player in (0, 1) for proposes in (True, False)
                                for sign in (-1, 0, 1)})

    def test_each_is_in_lowest_terms(self):
        for negotiation, the_round, terms in self.rounds:
            for player in (0, 1):
                first, numerator, denominator = found(negotiation, player, the_round)
                self.assertEqual(first, 0)
                self.assertGreaterEqual(denominator, 1)
                self.assertEqual(gcd(numerator, denominator), 1)

    def test_an_outside_option_that_is_zero_already(self):
        for negotiation, the_round, terms in self.rounds:
            for player in (0, 1):
                self.assertEqual(found(without_option(negotiation, player), player, the_round), NOTHING)

    def test_an_ineffective_outside_option(self):
        met = 0
        for negotiation, the_round, terms in self.rounds:
            for player in (0, 1):
                option = negotiation["extra"][4 + player]
                responded = [step for step in terms.rounds_from_here() if step.responder == player]
                if option > 0 and all(option < step.continuation[player] for step in responded):
                    met += 1
                    self.assertEqual(found(negotiation, player, the_round), NOTHING, (negotiation, the_round))
        self.assertGreater(met, 100)


class Calls(EveryOperation, unittest.TestCase):
    def answers(self, negotiation, the_round=0):
        return [found(negotiation, player, the_round) for player in (0, 1)]

    def answers_by_the_words(self, negotiation, the_round=0):
        return [answer(Terms(negotiation, the_round).payoffs[player]
                       - Terms(without_option(negotiation, player), the_round).payoffs[player])
                for player in (0, 1)]

    def test_extra_is_as_it_was(self):
        extra = [1, 4, 0, 0, 2, 3, 1, 0]
        for player in (0, 1):
            value_of_outside_option(10, 0, player, [0, 1], [1, 2, 1, 2], [2, 4], extra)
            self.assertEqual(extra, [1, 4, 0, 0, 2, 3, 1, 0])
            self.assertEqual(found(untouchable(EXAMPLE), player), found(EXAMPLE, player))
        # What the test relies on: the list that is handed in refuses the change itself.
        with self.assertRaises(AssertionError):
            Untouchable(extra)[4] = 0

    def test_the_order_of_the_arguments(self):
        negotiation = changed(proposers=[0, 1], extra=[0, 1, 0, 0, 8, 0, 0, 0])
        self.assertEqual(
            value_of_outside_option(negotiation["amount"], 1, 0, negotiation["proposers"], negotiation["discounts"],
                                    negotiation["final"], negotiation["extra"]),
            [0, 7, 1])

    def test_players(self):
        for player in (2, 3, LARGEST):
            self.assertEqual(found(EXAMPLE, player), [-2])
            self.assertEqual(found(EXAMPLE, player, 1), [-2])

    def test_limits_come_before_the_player(self):
        for negotiation in negotiations_outside_the_limits():
            for the_round in (0, LARGEST):
                for player in (2, LARGEST):
                    self.assertEqual(found(negotiation, player, the_round), [-22], negotiation)


if __name__ == "__main__":
    unittest.main()
