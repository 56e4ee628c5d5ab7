import unittest
from fractions import Fraction

from leaveoffers.offers import outcome, payoff, reservation_value
from negotiations import EXAMPLE, EveryOperation, Terms, changed, drawn_rounds, mirrored


def found(negotiation, the_round=0):
    return outcome(the_round=the_round, **negotiation)


class Examples(unittest.TestCase):
    call = ([0], [1, 2, 1, 2], [2, 4], [1, 4, 0, 0, 0, 3, 1, 0])

    def test_the_document(self):
        self.assertEqual(outcome(10, 0, *self.call), [0])

    def test_a_missing_round(self):
        self.assertEqual(outcome(10, 1, *self.call), [-2])


class Outcomes(unittest.TestCase):
    def assert_outcomes(self, negotiation, expected):
        """The outcomes of all rounds, whichever of the two players is called 0."""
        rounds = range(len(negotiation["proposers"]))
        for case in (negotiation, mirrored(negotiation)):
            self.assertEqual([found(case, the_round) for the_round in rounds], [[k] for k in expected], case)


class OneRound(Outcomes):
    def test_agreement(self):
        self.assert_outcomes(EXAMPLE, [0])
        self.assert_outcomes(changed(proposers=[1]), [0])

    def test_the_responder_leaves(self):
        # The outside option and the abandoned payoff are more than the amount together.
        self.assert_outcomes(changed(extra=[1, 4, 0, 0, 0, 3, 8, 0]), [1])
        self.assert_outcomes(changed(proposers=[1], extra=[1, 4, 0, 0, 3, 0, 0, 8]), [1])
        # What the players would have by continuing doesn't count then.
        self.assert_outcomes(changed(final=[1000, 0], extra=[1, 4, 0, 0, 0, 3, 1, 9]), [0])
        self.assert_outcomes(changed(final=[0, 0], extra=[1, 4, 0, 0, 0, 3, 8, 0]), [1])

    def test_the_negotiation_continues(self):
        # The continuation values are 45/4 and 3/2.
        self.assert_outcomes(changed(final=[30, 4], extra=[1, 4, 0, 0, 0, 1, 0, 0]), [2])
        self.assert_outcomes(changed(proposers=[1], final=[4, 30], extra=[1, 4, 0, 0, 1, 0, 0, 0]), [2])
        # The abandoned payoff doesn't count then.
        self.assert_outcomes(changed(final=[4, 4], extra=[1, 4, 0, 0, 0, 1, 1000, 1000]), [0])
        # Nor does the outside option of the proposer.
        self.assert_outcomes(changed(final=[4, 4], extra=[1, 4, 0, 0, 1000, 1, 0, 0]), [0])

    def test_an_abandoned_payoff_at_and_beside_the_rest_of_the_amount(self):
        for abandoned, expected in ((6, 0), (7, 0), (8, 1)):
            self.assert_outcomes(changed(extra=[1, 4, 0, 0, 0, 3, abandoned, 0]), [expected])

    def test_a_continuation_value_at_and_beside_the_rest_of_the_amount(self):
        for final, expected in (([5, 4], 0), ([6, 4], 0), ([7, 4], 2)):
            self.assert_outcomes(
                changed(discounts=[1, 1, 1, 1], final=final, extra=[0, 1, 0, 0, 0, 3, 0, 0]), [expected])
        # Both sides of the comparison are 11/2 in the first case.
        for breakdown_payoff, expected in ((9, 0), (10, 2)):
            self.assert_outcomes(
                changed(discounts=[1, 1, 1, 1], extra=[1, 2, breakdown_payoff, 5, 0, 0, 0, 0]), [expected])

    def test_a_continuation_value_at_and_beside_the_outside_option(self):
        # The continuation value of the responder is 2; by continuing the proposer would have 15.
        for option, abandoned, expected in ((1, 9, 2), (2, 9, 1), (3, 9, 1), (1, 0, 2), (2, 8, 0), (3, 7, 0)):
            negotiation = changed(final=[30, 4], extra=[0, 1, 0, 0, 0, option, abandoned, 0])
            self.assert_outcomes(negotiation, [expected])

    def test_a_reservation_value_equal_to_and_greater_than_the_amount(self):
        self.assert_outcomes(changed(extra=[0, 1, 0, 0, 0, 10, 0, 0]), [0])
        self.assert_outcomes(changed(extra=[0, 1, 0, 0, 0, 11, 0, 0]), [1])
        self.assert_outcomes(changed(amount=1, extra=[0, 1, 0, 0, 0, 1000, 0, 0]), [1])
        self.assert_outcomes(changed(final=[0, 20], extra=[0, 1, 0, 0, 0, 0, 0, 0]), [0])
        self.assert_outcomes(changed(final=[0, 21], extra=[0, 1, 0, 0, 0, 0, 0, 0]), [2])
        self.assert_outcomes(changed(amount=1, final=[0, 1000], extra=[0, 1, 0, 0, 0, 0, 0, 0]), [2])

    def test_a_reservation_value_of_zero(self):
        # The words of the terms: no agreement, though every offer would be accepted.
        for abandoned, expected in ((9, 0), (10, 0), (11, 1)):
            self.assert_outcomes(changed(extra=[1, 1, 0, 0, 0, 0, abandoned, 0]), [expected])

    def test_breakdown_probability_zero(self):
        for fraction in ([0, 1], [0, 7]):
            self.assert_outcomes(changed(extra=fraction + [1000, 1000, 0, 0, 0, 0]), [0])
            self.assert_outcomes(changed(final=[18, 4], extra=fraction + [0, 0, 0, 0, 0, 0]), [2])

    def test_breakdown_probability_one(self):
        for fraction in ([1, 1], [7, 7]):
            self.assert_outcomes(changed(final=[1000, 1000], extra=fraction + [4, 6, 0, 0, 0, 0]), [0])
            self.assert_outcomes(changed(final=[0, 0], extra=fraction + [5, 6, 0, 0, 0, 0]), [2])
            self.assert_outcomes(changed(final=[0, 1000], extra=fraction + [5, 6, 0, 6, 5, 0]), [1])


class SeveralRounds(Outcomes):
    """The three cases have each outcome in the first, the middle and the last round."""

    def test_agreement_then_leaving_then_continuing(self):
        # The payoffs are (2, 8), (3, 8) and (1, 14).
        self.assert_outcomes(
            changed(proposers=[0, 1, 0], discounts=[1, 2, 1, 1], final=[2, 14], extra=[0, 1, 0, 0, 3, 0, 0, 8]),
            [0, 1, 2])

    def test_leaving_then_continuing_then_agreement(self):
        # The payoffs are (9, 2), (19/2, 3/4) and (7, 3).
        self.assert_outcomes(
            changed(proposers=[0, 1, 0], discounts=[1, 1, 1, 2], final=[1, 12], extra=[1, 2, 12, 0, 4, 2, 9, 0]),
            [1, 2, 0])

    def test_continuing_then_agreement_then_leaving(self):
        # The payoffs are (1/2, 10), (2, 8) and (8, 6).
        self.assert_outcomes(
            changed(proposers=[0, 1, 0], discounts=[1, 2, 1, 1], final=[3, 0], extra=[1, 2, 0, 12, 2, 6, 8, 0]),
            [2, 0, 1])

    def test_one_proposer_in_all_rounds(self):
        # The continuation values add up to 16, then to 8, then to 5.
        self.assert_outcomes(changed(proposers=[0, 0, 0], final=[16, 16], extra=[0, 1, 0, 0, 0, 0, 0, 0]), [0, 0, 2])

    def test_twelve_rounds_with_the_same_outcome(self):
        alike = {"proposers": [0, 1] * 6, "discounts": [1, 1, 1, 1]}
        self.assert_outcomes(changed(final=[4, 6], extra=[0, 1, 0, 0, 0, 0, 0, 0], **alike), [0] * 12)
        self.assert_outcomes(changed(final=[6, 6], extra=[0, 1, 0, 0, 9, 9, 2, 2], **alike), [1] * 12)
        self.assert_outcomes(changed(final=[6, 6], extra=[0, 1, 0, 0, 0, 0, 0, 0], **alike), [2] * 12)

    def test_twelve_rounds_with_an_agreement_after_discounting(self):
        # The continuation values add up to 1000 in the last round, to half of it in each round before that.
        self.assert_outcomes(
            changed(proposers=[0, 1, 1, 0] * 3, final=[1000, 1000], extra=[0, 1, 0, 0, 0, 0, 0, 0]),
            [0] * 5 + [2] * 7)


class ByTheWords(unittest.TestCase):
    """Many negotiations against the document's terms."""

    @classmethod
    def setUpClass(cls):
        cls.rounds = drawn_rounds(800)

    def test_outcomes(self):
        for negotiation, the_round, terms in self.rounds:
            self.assertEqual(found(negotiation, the_round), [terms.outcome()], (negotiation, the_round))

    def test_every_outcome_occurs_everywhere(self):
        seen = set()
        for negotiation, the_round, terms in self.rounds:
            rounds = len(negotiation["proposers"])
            place = "last" if the_round == rounds - 1 else "first" if the_round == 0 else "middle"
            seen.add((found(negotiation, the_round)[0], terms.proposer, place))
        self.assertEqual(seen, {(ending, proposer, place) for ending in (0, 1, 2) for proposer in (0, 1)
                                for place in ("first", "middle", "last")})

    def test_it_fits_the_payoff_and_the_reservation_value(self):
        for negotiation, the_round, terms in self.rounds:
            proposer = negotiation["proposers"][the_round]
            gained = Fraction(*payoff(the_round=the_round, player=proposer, **negotiation)[1:])
            reservation = Fraction(*reservation_value(the_round=the_round, **negotiation)[1:])
            rest = negotiation["amount"] - reservation
            ending = found(negotiation, the_round)
            if ending == [0]:
                self.assertEqual(gained, rest)
            else:
                self.assertGreater(gained, rest)
            if ending == [1]:
                self.assertEqual(gained, negotiation["extra"][6 + proposer])
                self.assertEqual(reservation, negotiation["extra"][4 + 1 - proposer])
            if ending == [2]:
                self.assertGreater(reservation, negotiation["extra"][4 + 1 - proposer])

    def test_the_players_names_don_t_matter(self):
        for negotiation, the_round, terms in self.rounds:
            self.assertEqual(found(mirrored(negotiation), the_round), found(negotiation, the_round))


class Calls(EveryOperation, unittest.TestCase):
    numbers_of_an_answer = 1

    def answers(self, negotiation, the_round=0):
        return [found(negotiation, the_round)]

    def answers_by_the_words(self, negotiation, the_round=0):
        return [[Terms(negotiation, the_round).outcome()]]

    def test_the_order_of_the_arguments(self):
        negotiation = changed(proposers=[1, 0], final=[30, 4])
        self.assertEqual(
            outcome(negotiation["amount"], 1, negotiation["proposers"], negotiation["discounts"],
                    negotiation["final"], negotiation["extra"]),
            found(negotiation, 1))


if __name__ == "__main__":
    unittest.main()
