import unittest

from leaveoffers.offers import payoff
from negotiations import (EXAMPLE, LARGEST, EveryOperation, Terms, answer, changed, drawn_rounds,
                          negotiations_outside_the_limits)


def both(negotiation, the_round=0):
    return [payoff(the_round=the_round, player=player, **negotiation) for player in (0, 1)]


class Examples(unittest.TestCase):
    def test_the_document(self):
        call = ([0], [1, 2, 1, 2], [2, 4], [1, 4, 0, 0, 0, 3, 1, 0])
        self.assertEqual(payoff(10, 0, 0, *call), [0, 7, 1])
        self.assertEqual(payoff(10, 1, 0, *call), [-2])

    def test_the_responder_gets_the_reservation_value(self):
        self.assertEqual(both(EXAMPLE), [[0, 7, 1], [0, 3, 1]])


class OneRound(unittest.TestCase):
    def test_agreement_with_a_responder_who_would_continue(self):
        self.assertEqual(both(changed(extra=[1, 4, 0, 0, 0, 1, 1, 0])), [[0, 17, 2], [0, 3, 2]])

    def test_the_other_player_proposes(self):
        negotiation = changed(proposers=[1], final=[4, 2], extra=[1, 4, 0, 0, 3, 0, 0, 1])
        self.assertEqual(both(negotiation), [[0, 3, 1], [0, 7, 1]])

    def test_the_responder_leaves(self):
        self.assertEqual(both(changed(extra=[1, 4, 0, 0, 0, 8, 5, 7])), [[0, 5, 1], [0, 8, 1]])
        self.assertEqual(both(changed(proposers=[1], extra=[1, 4, 0, 0, 8, 0, 7, 5])), [[0, 8, 1], [0, 5, 1]])

    def test_the_negotiation_continues(self):
        negotiation = changed(discounts=[1, 1, 1, 1], final=[9, 4], extra=[0, 1, 0, 0, 0, 3, 0, 0])
        self.assertEqual(both(negotiation), [[0, 9, 1], [0, 4, 1]])

    def test_a_continuation_value_equal_to_the_outside_option_leaves(self):
        # Continuing would give the proposer 9, more than the 6 of an agreement.
        negotiation = changed(discounts=[1, 1, 1, 1], final=[9, 4], extra=[0, 1, 0, 0, 0, 4, 0, 0])
        self.assertEqual(both(negotiation), [[0, 6, 1], [0, 4, 1]])
        # The abandoned payoff counts, though continuing would give the proposer nothing.
        negotiation = changed(discounts=[0, 1, 1, 1], extra=[0, 1, 0, 0, 0, 4, 9, 0])
        self.assertEqual(both(negotiation), [[0, 9, 1], [0, 4, 1]])

    def test_a_rejection_payoff_at_and_beside_the_rest_of_the_amount(self):
        for abandoned, expected in ((6, 7), (7, 7), (8, 8)):
            negotiation = changed(extra=[1, 4, 0, 0, 0, 3, abandoned, 0])
            self.assertEqual(both(negotiation), [[0, expected, 1], [0, 3, 1]])

    def test_final_payoffs_whose_sum_is_greater_than_the_amount(self):
        negotiation = changed(discounts=[1, 1, 1, 1], final=[8, 9], extra=[0, 1, 0, 0, 0, 0, 0, 0])
        self.assertEqual(both(negotiation), [[0, 8, 1], [0, 9, 1]])

    def test_a_reservation_value_greater_than_the_amount(self):
        negotiation = changed(amount=1, extra=[1, 4, 0, 0, 0, 1000, 0, 0])
        self.assertEqual(both(negotiation), [[0, 0, 1], [0, 1000, 1]])

    def test_breakdown_probabilities_zero_and_one(self):
        for fraction in ([0, 1], [0, 7]):
            self.assertEqual(both(changed(extra=fraction + [9, 9, 0, 0, 0, 0])), [[0, 8, 1], [0, 2, 1]])
        for fraction in ([1, 1], [7, 7]):
            self.assertEqual(both(changed(extra=fraction + [3, 6, 0, 0, 0, 0])), [[0, 4, 1], [0, 6, 1]])

    def test_discount_factors_zero_and_one(self):
        extra = [0, 1, 0, 0, 0, 0, 0, 0]
        self.assertEqual(both(changed(discounts=[0, 1, 0, 1], extra=extra)), [[0, 10, 1], [0, 0, 1]])
        self.assertEqual(both(changed(discounts=[0, 1, 1, 1], extra=extra)), [[0, 6, 1], [0, 4, 1]])
        self.assertEqual(both(changed(discounts=[1, 1, 0, 1], extra=extra)), [[0, 10, 1], [0, 0, 1]])

    def test_zero_is_0_over_1(self):
        # The continuation value of player 1 is 0 out of 100 * 100 here.
        negotiation = changed(amount=3, discounts=[0, 100, 0, 100], extra=[0, 100, 0, 0, 3, 0, 0, 0])
        self.assertEqual(both(negotiation), [[0, 3, 1], [0, 0, 1]])
        self.assertEqual(both(changed(amount=3, extra=[1, 4, 0, 0, 0, 3, 0, 0])), [[0, 0, 1], [0, 3, 1]])

    def test_lowest_terms(self):
        negotiation = changed(discounts=[50, 100, 30, 90], final=[0, 6], extra=[20, 80, 0, 2, 0, 0, 0, 0])
        self.assertEqual(both(negotiation), [[0, 8, 1], [0, 2, 1]])
        negotiation = changed(discounts=[50, 100, 30, 90], final=[0, 7], extra=[20, 80, 0, 2, 0, 0, 0, 0])
        self.assertEqual(both(negotiation), [[0, 31, 4], [0, 9, 4]])


class SeveralRounds(unittest.TestCase):
    plain = [0, 1, 0, 0, 0, 0, 0, 0]

    def test_alternating_proposers(self):
        negotiation = changed(proposers=[0, 1, 0], discounts=[1, 2, 1, 3], final=[2, 3], extra=self.plain)
        self.assertEqual(both(negotiation, 2), [[0, 9, 1], [0, 1, 1]])
        self.assertEqual(both(negotiation, 1), [[0, 9, 2], [0, 11, 2]])
        self.assertEqual(both(negotiation, 0), [[0, 49, 6], [0, 11, 6]])

    def test_repeated_proposers(self):
        negotiation = changed(proposers=[1, 1, 0, 0], discounts=[1, 2, 1, 3], final=[2, 3], extra=self.plain)
        self.assertEqual(both(negotiation, 3), [[0, 9, 1], [0, 1, 1]])
        self.assertEqual(both(negotiation, 2), [[0, 29, 3], [0, 1, 3]])
        self.assertEqual(both(negotiation, 1), [[0, 29, 6], [0, 31, 6]])
        self.assertEqual(both(negotiation, 0), [[0, 29, 12], [0, 91, 12]])

    def test_a_round_that_continues_before_an_agreement(self):
        negotiation = changed(
            proposers=[1, 0], discounts=[1, 1, 1, 1], final=[0, 0], extra=[1, 2, 10, 10, 0, 0, 0, 0])
        self.assertEqual(both(negotiation, 1), [[0, 5, 1], [0, 5, 1]])
        self.assertEqual(both(negotiation, 0), [[0, 15, 2], [0, 15, 2]])

    def test_an_agreement_before_a_round_in_which_the_responder_leaves(self):
        negotiation = changed(proposers=[0, 1], extra=[0, 1, 0, 0, 8, 1, 0, 5])
        self.assertEqual(both(negotiation, 1), [[0, 8, 1], [0, 5, 1]])
        self.assertEqual(both(negotiation, 0), [[0, 15, 2], [0, 5, 2]])

    def test_twelve_rounds(self):
        negotiation = changed(amount=1, proposers=[0, 1] * 6, final=[0, 0], extra=self.plain)
        self.assertEqual(both(negotiation, 11), [[0, 0, 1], [0, 1, 1]])
        self.assertEqual(both(negotiation, 10), [[0, 1, 2], [0, 1, 2]])
        self.assertEqual(both(negotiation, 0), [[0, 1365, 2048], [0, 683, 2048]])

    def test_twelve_rounds_with_large_denominators(self):
        negotiation = changed(
            amount=1000, proposers=[0, 1, 1, 0] * 3, discounts=[98, 99, 96, 97], final=[999, 1],
            extra=[1, 100, 7, 3, 1, 2, 0, 0])
        for the_round in range(12):
            expected = [answer(value) for value in Terms(negotiation, the_round).payoffs]
            self.assertEqual(both(negotiation, the_round), expected)


class ByTheWords(unittest.TestCase):
    """Many negotiations against the document's terms."""

    @classmethod
    def setUpClass(cls):
        cls.rounds = drawn_rounds(800)

    def test_payoffs(self):
        for negotiation, the_round, terms in self.rounds:
            expected = [answer(value) for value in terms.payoffs]
            self.assertEqual(both(negotiation, the_round), expected, (negotiation, the_round))

    def test_the_cases_hold_every_ending_and_both_equalities(self):
        self.assertEqual({terms.ending() for negotiation, the_round, terms in self.rounds},
                         {"agreement", "leaving", "continuing"})
        self.assertTrue(any(terms.continuation[terms.responder] == terms.outside[terms.responder] > 0
                            for negotiation, the_round, terms in self.rounds))
        self.assertTrue(any(terms.rejection == negotiation["amount"] - terms.reservation > 0
                            for negotiation, the_round, terms in self.rounds))


class Calls(EveryOperation, unittest.TestCase):
    def answers(self, negotiation, the_round=0):
        return both(negotiation, the_round)

    def answers_by_the_words(self, negotiation, the_round=0):
        return [answer(value) for value in Terms(negotiation, the_round).payoffs]

    def test_players(self):
        for player in (2, 3, LARGEST):
            self.assertEqual(payoff(the_round=0, player=player, **EXAMPLE), [-2])
            self.assertEqual(payoff(the_round=1, player=player, **EXAMPLE), [-2])

    def test_limits_come_before_the_player(self):
        for negotiation in negotiations_outside_the_limits():
            for the_round in (0, LARGEST):
                for player in (2, LARGEST):
                    self.assertEqual(payoff(the_round=the_round, player=player, **negotiation), [-22], negotiation)


if __name__ == "__main__":
    unittest.main()
