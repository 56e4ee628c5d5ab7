import unittest

from leaveoffers.offers import payoff, reservation_value
from negotiations import EXAMPLE, EveryOperation, Terms, answer, changed, drawn_rounds


def found(negotiation, the_round=0):
    return reservation_value(the_round=the_round, **negotiation)


class Examples(unittest.TestCase):
    def test_the_document(self):
        self.assertEqual(
            reservation_value(10, 0, [0], [1, 2, 1, 2], [2, 4], [1, 4, 0, 0, 0, 3, 1, 0]), [0, 3, 1])

    def test_a_missing_round(self):
        self.assertEqual(
            reservation_value(10, 1, [0], [1, 2, 1, 2], [2, 4], [1, 4, 0, 0, 0, 3, 1, 0]), [-2])


class OneRound(unittest.TestCase):
    def test_an_outside_option_greater_than_the_continuation_value(self):
        self.assertEqual(found(changed(extra=[1, 4, 0, 0, 9, 2, 0, 0])), [0, 2, 1])
        self.assertEqual(found(changed(proposers=[1], extra=[1, 4, 0, 0, 1, 9, 0, 0])), [0, 1, 1])

    def test_an_outside_option_smaller_than_the_continuation_value(self):
        self.assertEqual(found(changed(extra=[1, 4, 0, 0, 9, 1, 0, 0])), [0, 3, 2])
        self.assertEqual(found(changed(proposers=[1], extra=[1, 4, 0, 0, 0, 9, 0, 0])), [0, 3, 4])

    def test_an_outside_option_equal_to_the_continuation_value(self):
        self.assertEqual(found(changed(extra=[0, 4, 0, 0, 9, 2, 0, 0])), [0, 2, 1])
        self.assertEqual(found(changed(proposers=[1], extra=[0, 4, 0, 0, 1, 9, 0, 0])), [0, 1, 1])

    def test_greater_than_the_amount(self):
        self.assertEqual(found(changed(amount=1, extra=[1, 4, 0, 0, 0, 1000, 0, 0])), [0, 1000, 1])
        negotiation = changed(amount=1, discounts=[1, 2, 1, 1], final=[0, 1000], extra=[1, 3, 0, 0, 0, 5, 0, 0])
        self.assertEqual(found(negotiation), [0, 2000, 3])

    def test_zero_is_0_over_1(self):
        self.assertEqual(found(changed(discounts=[1, 2, 0, 100], extra=[0, 100, 9, 9, 9, 0, 9, 9])), [0, 0, 1])
        self.assertEqual(found(changed(final=[9, 0], extra=[1, 4, 9, 0, 9, 0, 9, 9])), [0, 0, 1])

    def test_breakdown_probabilities_zero_and_one(self):
        for fraction in ([0, 1], [0, 7]):
            self.assertEqual(found(changed(final=[8, 5], extra=fraction + [9, 9, 0, 1, 0, 0])), [0, 5, 2])
        for fraction in ([1, 1], [7, 7]):
            self.assertEqual(found(changed(final=[8, 5], extra=fraction + [9, 6, 0, 1, 0, 0])), [0, 6, 1])

    def test_discount_factors_zero_and_one(self):
        extra = [1, 4, 0, 4, 0, 0, 0, 0]
        self.assertEqual(found(changed(discounts=[1, 1, 0, 1], extra=extra)), [0, 1, 1])
        self.assertEqual(found(changed(discounts=[0, 1, 1, 1], extra=extra)), [0, 4, 1])


class SeveralRounds(unittest.TestCase):
    plain = [0, 1, 0, 0, 0, 0, 0, 0]

    def test_alternating_proposers(self):
        negotiation = changed(proposers=[0, 1, 0], discounts=[1, 2, 1, 3], final=[2, 3], extra=self.plain)
        self.assertEqual([found(negotiation, k) for k in range(3)], [[0, 11, 6], [0, 9, 2], [0, 1, 1]])

    def test_repeated_proposers(self):
        negotiation = changed(proposers=[1, 1, 0, 0], discounts=[1, 2, 1, 3], final=[2, 3], extra=self.plain)
        self.assertEqual([found(negotiation, k) for k in range(4)],
                         [[0, 29, 12], [0, 29, 6], [0, 1, 3], [0, 1, 1]])

    def test_rounds_without_agreement(self):
        negotiation = changed(
            proposers=[1, 0], discounts=[1, 1, 1, 1], final=[0, 0], extra=[1, 2, 10, 10, 0, 0, 0, 0])
        self.assertEqual([found(negotiation, k) for k in range(2)], [[0, 15, 2], [0, 5, 1]])
        negotiation = changed(proposers=[0, 1], extra=[0, 1, 0, 0, 8, 1, 0, 5])
        self.assertEqual([found(negotiation, k) for k in range(2)], [[0, 5, 2], [0, 8, 1]])

    def test_twelve_rounds(self):
        negotiation = changed(amount=1, proposers=[0, 1] * 6, final=[0, 0], extra=self.plain)
        self.assertEqual(found(negotiation, 11), [0, 0, 1])
        self.assertEqual(found(negotiation, 10), [0, 1, 2])
        self.assertEqual(found(negotiation, 0), [0, 683, 2048])


class ByTheWords(unittest.TestCase):
    """Many negotiations against the document's terms."""

    @classmethod
    def setUpClass(cls):
        cls.rounds = drawn_rounds(400)

    def test_reservation_values(self):
        for negotiation, the_round, terms in self.rounds:
            self.assertEqual(found(negotiation, the_round), answer(terms.reservation), (negotiation, the_round))

    def test_it_is_the_payoff_of_the_responder(self):
        for negotiation, the_round, terms in self.rounds:
            self.assertEqual(found(negotiation, the_round),
                             payoff(the_round=the_round, player=terms.responder, **negotiation))

    def test_both_players_respond_and_each_comparison_occurs(self):
        seen = set()
        for negotiation, the_round, terms in self.rounds:
            continuation = terms.continuation[terms.responder]
            option = terms.outside[terms.responder]
            seen.add((terms.responder, (continuation > option) - (continuation < option)))
        self.assertEqual(seen, {(player, order) for player in (0, 1) for order in (-1, 0, 1)})

    def test_without_effect_an_outside_option_changes_nothing(self):
        negotiation = changed(proposers=[0, 1], extra=[0, 1, 0, 0, 4, 1, 0, 0], final=[10, 2])
        without = changed(proposers=[0, 1], extra=[0, 1, 0, 0, 0, 0, 0, 0], final=[10, 2])
        for the_round in (0, 1):
            self.assertEqual(found(negotiation, the_round), found(without, the_round))


class Calls(EveryOperation, unittest.TestCase):
    def answers(self, negotiation, the_round=0):
        return [found(negotiation, the_round)]

    def answers_by_the_words(self, negotiation, the_round=0):
        return [answer(Terms(negotiation, the_round).reservation)]

    def test_the_order_of_the_arguments(self):
        self.assertEqual(
            reservation_value(EXAMPLE["amount"], 0, EXAMPLE["proposers"], EXAMPLE["discounts"],
                              EXAMPLE["final"], EXAMPLE["extra"]),
            found(EXAMPLE))


if __name__ == "__main__":
    unittest.main()
