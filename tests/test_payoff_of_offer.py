import unittest
from fractions import Fraction

from leaveoffers.offers import outcome, payoff, payoff_of_offer, reservation_value
from negotiations import (EXAMPLE, LARGEST, EveryOperation, Terms, answer, changed, drawn_rounds, mirrored,
                          negotiations_outside_the_limits, offers_around)


def found(negotiation, num, den, the_round=0):
    return payoff_of_offer(the_round=the_round, num=num, den=den, **negotiation)


class Examples(unittest.TestCase):
    call = ([0], [1, 2, 1, 2], [2, 4], [1, 4, 0, 0, 0, 3, 1, 0])

    def test_the_document(self):
        self.assertEqual(payoff_of_offer(10, 0, 2, 1, *self.call), [0, 1, 1])

    def test_a_missing_round(self):
        self.assertEqual(payoff_of_offer(10, 1, 2, 1, *self.call), [-2])

    def test_an_offer_outside_the_limits(self):
        self.assertEqual(payoff_of_offer(10, 0, 11, 1, *self.call), [-22])


class Offers(unittest.TestCase):
    def assert_payoffs(self, negotiation, expected, the_round=0):
        """The payoffs by offer, whichever of the two players is called 0."""
        for case in (negotiation, mirrored(negotiation)):
            for (num, den), value in expected.items():
                self.assertEqual(found(case, num, den, the_round), [0, value[0], value[1]], (case, num, den))


class OneRound(Offers):
    def test_rejected_offers_after_which_the_responder_leaves(self):
        # The reservation value is 3; by continuing the proposer would have 3/4.
        self.assert_payoffs(EXAMPLE, {
            (0, 1): (1, 1), (1, 1): (1, 1), (2, 1): (1, 1), (5, 2): (1, 1), (2999, 1000): (1, 1),
            (3, 1): (7, 1), (3001, 1000): (6999, 1000), (7, 2): (13, 2), (4, 1): (6, 1), (9, 1): (1, 1)})

    def test_rejected_offers_after_which_the_negotiation_continues(self):
        # The reservation value is 3/2; the abandoned payoff would be 5.
        negotiation = changed(extra=[1, 4, 0, 0, 0, 1, 5, 0])
        self.assert_payoffs(negotiation, {
            (0, 1): (3, 4), (1, 1): (3, 4), (1499, 1000): (3, 4), (746, 498): (3, 4),
            (3, 2): (17, 2), (1501, 1000): (8499, 1000), (748, 498): (2116, 249), (2, 1): (8, 1)})

    def test_the_other_player_proposes(self):
        # The reservation value is 3/4, the proposer's continuation value 3/2.
        self.assert_payoffs(changed(proposers=[1]), {
            (0, 1): (3, 2), (749, 1000): (3, 2), (3, 4): (37, 4), (751, 1000): (9249, 1000), (1, 1): (9, 1)})

    def test_a_continuation_value_equal_to_the_outside_option(self):
        # Both are 2: a responder who rejects leaves, and the proposer doesn't get the 15 of continuing.
        negotiation = changed(final=[30, 4], extra=[0, 1, 0, 0, 0, 2, 5, 0])
        self.assert_payoffs(negotiation, {(1, 1): (5, 1), (1999, 1000): (5, 1), (2, 1): (8, 1)})

    def test_offers_out_of_lowest_terms(self):
        for num, den in ((7, 2), (14, 4), (35, 10), (3500, 1000)):
            self.assert_payoffs(EXAMPLE, {(num, den): (13, 2)})
        for num, den in ((3, 1), (6, 2), (99, 33), (3000, 1000)):
            self.assert_payoffs(EXAMPLE, {(num, den): (7, 1)})
        for num, den in ((2, 1), (4, 2), (66, 33), (2000, 1000)):
            self.assert_payoffs(EXAMPLE, {(num, den): (1, 1)})

    def test_an_offer_of_zero(self):
        for den in (1, 2, 10, 1000):
            self.assert_payoffs(EXAMPLE, {(0, den): (1, 1)})
            # A reservation value of 0 accepts it.
            self.assert_payoffs(changed(extra=[1, 1, 9, 0, 9, 0, 9, 9]), {(0, den): (10, 1)})
            self.assert_payoffs(changed(extra=[0, 1, 0, 0, 0, 0, 0, 0], final=[9, 0]), {(0, den): (10, 1)})

    def test_the_whole_amount(self):
        for den in (1, 2, 10, 1000):
            self.assert_payoffs(EXAMPLE, {(10 * den, den): (0, 1)})
            self.assert_payoffs(changed(extra=[0, 1, 0, 0, 0, 10, 7, 0]), {(10 * den, den): (0, 1)})
            # A reservation value greater than the amount rejects it.
            self.assert_payoffs(changed(extra=[0, 1, 0, 0, 0, 11, 7, 0]), {(10 * den, den): (7, 1)})
            self.assert_payoffs(changed(final=[3, 21], extra=[0, 1, 0, 0, 0, 0, 7, 0]), {(10 * den, den): (3, 2)})

    def test_a_rejection_payoff_of_zero(self):
        self.assert_payoffs(changed(extra=[1, 4, 0, 0, 0, 3, 0, 0]), {(1, 1): (0, 1)})
        self.assert_payoffs(changed(discounts=[0, 7, 1, 2], extra=[1, 4, 0, 0, 0, 0, 9, 0]), {(1, 1): (0, 1)})

    def test_breakdown_probabilities_zero_and_one(self):
        for fraction in ([0, 1], [0, 7]):
            self.assert_payoffs(changed(extra=fraction + [9, 9, 0, 0, 0, 0]), {(1, 1): (1, 1), (2, 1): (8, 1)})
        for fraction in ([1, 1], [7, 7]):
            self.assert_payoffs(changed(extra=fraction + [9, 5, 0, 0, 0, 0]), {(4, 1): (9, 1), (5, 1): (5, 1)})

    def test_an_accepted_offer_counts_even_where_a_rejection_gives_more(self):
        negotiation = changed(extra=[1, 4, 0, 0, 0, 3, 8, 0])
        self.assert_payoffs(negotiation, {(2, 1): (8, 1), (3, 1): (7, 1), (4, 1): (6, 1)})
        # Every offer is accepted where the reservation value is 0.
        self.assert_payoffs(changed(extra=[1, 1, 0, 0, 0, 0, 1000, 0]), {(0, 1): (10, 1), (1, 1): (9, 1)})


class SeveralRounds(Offers):
    def test_alternating_proposers(self):
        # The payoffs are (49/6, 11/6), (9/2, 11/2) and (9, 1).
        negotiation = changed(proposers=[0, 1, 0], discounts=[1, 2, 1, 3], final=[2, 3],
                              extra=[0, 1, 0, 0, 0, 0, 0, 0])
        self.assert_payoffs(negotiation, {(0, 1): (1, 1), (999, 1000): (1, 1), (1, 1): (9, 1), (2, 1): (8, 1)}, 2)
        self.assert_payoffs(negotiation, {(4, 1): (1, 3), (9, 2): (11, 2), (5, 1): (5, 1)}, 1)
        self.assert_payoffs(negotiation, {(1833, 1000): (9, 4), (11, 6): (49, 6), (1834, 1000): (4083, 500)}, 0)

    def test_rounds_with_each_outcome(self):
        # The payoffs are (2, 8), (3, 8) and (1, 14): an agreement, then leaving, then continuing.
        negotiation = changed(proposers=[0, 1, 0], discounts=[1, 2, 1, 1], final=[2, 14],
                              extra=[0, 1, 0, 0, 3, 0, 0, 8])
        self.assert_payoffs(negotiation, {(7, 1): (3, 2), (8, 1): (2, 1), (9, 1): (1, 1)}, 0)
        self.assert_payoffs(negotiation, {(2, 1): (8, 1), (3, 1): (7, 1), (4, 1): (6, 1)}, 1)
        self.assert_payoffs(negotiation, {(0, 1): (1, 1), (10, 1): (1, 1)}, 2)

    def test_twelve_rounds(self):
        negotiation = changed(amount=1, proposers=[0, 1] * 6, final=[0, 0], extra=[0, 1, 0, 0, 0, 0, 0, 0])
        self.assert_payoffs(negotiation, {(0, 1): (1, 1), (1, 2): (1, 2)}, 11)
        self.assert_payoffs(negotiation, {(499, 1000): (0, 1), (1, 2): (1, 2)}, 10)
        # The reservation value is 683/2048, by rejecting the proposer would have 341/2048.
        self.assert_payoffs(negotiation, {(333, 1000): (341, 2048), (1, 3): (341, 2048), (334, 1000): (333, 500)}, 0)


class ByTheWords(unittest.TestCase):
    """Many negotiations against the document's terms."""

    @classmethod
    def setUpClass(cls):
        cls.rounds = drawn_rounds(400)

    def test_payoffs_of_offers(self):
        for negotiation, the_round, terms in self.rounds:
            for num, den in offers_around(terms.reservation, negotiation["amount"]):
                self.assertEqual(found(negotiation, num, den, the_round),
                                 answer(terms.payoff_of_offer(Fraction(num, den))),
                                 (negotiation, the_round, num, den))

    def test_the_best_offer_gives_the_payoff(self):
        met = set()
        for negotiation, the_round, terms in self.rounds:
            best = payoff(the_round=the_round, player=terms.proposer, **negotiation)
            zero, num, den = reservation_value(the_round=the_round, **negotiation)
            ending = outcome(the_round=the_round, **negotiation)[0]
            if ending == 0 and den <= 1000:
                met.add(ending)
                self.assertEqual(found(negotiation, num, den, the_round), best)
            # An offer of 0 is rejected where the reservation value is greater.
            if ending != 0 and num > 0:
                met.add(ending)
                self.assertEqual(found(negotiation, 0, 1, the_round), best)
        self.assertEqual(met, {0, 1, 2})


class Calls(EveryOperation, unittest.TestCase):
    def offers(self, negotiation):
        amount = negotiation["amount"]
        return [(0, 1), (1, 2), (1, 1000), (amount, 2), (amount, 1)]

    def answers(self, negotiation, the_round=0):
        return [found(negotiation, num, den, the_round) for num, den in self.offers(negotiation)]

    def answers_by_the_words(self, negotiation, the_round=0):
        terms = Terms(negotiation, the_round)
        return [answer(terms.payoff_of_offer(Fraction(num, den))) for num, den in self.offers(negotiation)]

    def test_denominators(self):
        for den in (1, 2, 999, 1000):
            self.assertEqual(found(EXAMPLE, 0, den), [0, 1, 1])
            self.assertEqual(found(EXAMPLE, 3 * den, den), [0, 7, 1])
        for den in (0, 1001, 1002, LARGEST):
            for num in (0, 1, 3003, LARGEST):
                self.assertEqual(found(EXAMPLE, num, den), [-22], (num, den))

    def test_numerators(self):
        for amount in (1, 10, 999, 1000):
            for den in (1, 2, 999, 1000):
                negotiation = changed(amount=amount, extra=[1, 1, 0, 0, 0, 0, 0, 0])
                self.assertEqual(found(negotiation, amount * den - 1, den), [0, 1, den])
                self.assertEqual(found(negotiation, amount * den, den), [0, 0, 1])
                for num in (amount * den + 1, 1000 * 1000 + 1, LARGEST):
                    self.assertEqual(found(negotiation, num, den), [-22], (amount, num, den))

    def test_the_negotiation_comes_before_the_round_and_the_offer(self):
        for negotiation in negotiations_outside_the_limits():
            for the_round in (0, 14, LARGEST):
                for num, den in ((1, 1), (0, 0), (LARGEST, 1), (1, 1001)):
                    self.assertEqual(found(negotiation, num, den, the_round), [-22], negotiation)

    def test_the_round_comes_before_the_offer(self):
        for rounds in (1, 2, 12):
            negotiation = changed(proposers=[0] * rounds)
            for num, den in ((0, 0), (1, 0), (11, 1), (LARGEST, 1000), (1, 1001), (LARGEST, LARGEST)):
                self.assertEqual(found(negotiation, num, den, rounds - 1), [-22])
                for the_round in (rounds, rounds + 1, LARGEST):
                    self.assertEqual(found(negotiation, num, den, the_round), [-2])


if __name__ == "__main__":
    unittest.main()
