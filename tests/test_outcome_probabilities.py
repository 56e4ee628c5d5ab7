import random
import unittest
from fractions import Fraction
from math import gcd

from leaveoffers.offers import outcome, outcome_probabilities
from negotiations import (EXAMPLE, EveryOperation, Terms, answer, changed, drawn_rounds, mirrored,
                          negotiations_at_the_limits)

AGREEMENT = [0, 1, 1, 0, 1, 0, 1, 0, 1]
LEAVING = [0, 0, 1, 1, 1, 0, 1, 0, 1]
BREAKDOWN = [0, 0, 1, 0, 1, 1, 1, 0, 1]
FINAL = [0, 0, 1, 0, 1, 0, 1, 1, 1]


def found(negotiation, the_round=0):
    return outcome_probabilities(the_round=the_round, **negotiation)


def pairs(numbers):
    return [(numbers[k], numbers[k + 1]) for k in range(1, len(numbers), 2)]


def chain_before_leaving(fraction):
    """The negotiation continues twice; then the responder leaves."""
    return changed(proposers=[0, 0, 1], discounts=[1, 1, 1, 1], final=[0, 0], extra=fraction + [4, 4, 8, 0, 0, 5])


def drawn_chains(count):
    """Negotiations, the same ones in every run, whose breakdown payoffs often make more than one round continue."""
    source = random.Random(5)
    return [{
        "amount": 10,
        "proposers": [source.randint(0, 1) for step in range(source.randint(2, 12))],
        "discounts": [source.randint(90, 100), 100, source.randint(90, 100), 100],
        "final": [source.randint(0, 8) for player in range(2)],
        "extra": ([source.randint(1, 60), 100] + [source.randint(4, 20) for player in range(2)]
                  + [source.randint(0, 9) for k in range(4)]),
    } for number in range(count)]


class Examples(unittest.TestCase):
    call = ([0], [1, 2, 1, 2], [2, 4], [1, 4, 0, 0, 0, 3, 1, 0])

    def test_the_round_of_the_document_s_examples(self):
        self.assertEqual(outcome_probabilities(10, 0, *self.call), [0, 1, 1, 0, 1, 0, 1, 0, 1])

    def test_a_missing_round(self):
        self.assertEqual(outcome_probabilities(10, 1, *self.call), [-2])


class Probabilities(unittest.TestCase):
    def assert_probabilities(self, negotiation, expected):
        """The answers for all rounds, whichever of the two players is called 0."""
        rounds = range(len(negotiation["proposers"]))
        for case in (negotiation, mirrored(negotiation)):
            self.assertEqual([found(case, the_round) for the_round in rounds], expected, case)


class OneRound(Probabilities):
    def test_agreement(self):
        self.assert_probabilities(EXAMPLE, [AGREEMENT])
        self.assert_probabilities(changed(proposers=[1]), [AGREEMENT])

    def test_the_responder_leaves(self):
        self.assert_probabilities(changed(extra=[1, 4, 0, 0, 0, 3, 8, 0]), [LEAVING])
        self.assert_probabilities(changed(proposers=[1], extra=[1, 4, 0, 0, 3, 0, 0, 8]), [LEAVING])

    def test_the_negotiation_continues(self):
        expected = [0, 0, 1, 0, 1, 1, 4, 3, 4]
        self.assert_probabilities(changed(final=[30, 4], extra=[1, 4, 0, 0, 0, 1, 0, 0]), [expected])
        self.assert_probabilities(changed(proposers=[1], final=[4, 30], extra=[1, 4, 0, 0, 1, 0, 0, 0]), [expected])

    def test_an_abandoned_payoff_at_and_beside_the_rest_of_the_amount(self):
        for abandoned, expected in ((6, AGREEMENT), (7, AGREEMENT), (8, LEAVING)):
            self.assert_probabilities(changed(extra=[1, 4, 0, 0, 0, 3, abandoned, 0]), [expected])

    def test_a_continuation_value_at_and_beside_the_outside_option(self):
        # The continuation value of the responder is 2; by continuing the proposer would have 15.
        for option, expected in ((1, FINAL), (2, LEAVING), (3, LEAVING)):
            self.assert_probabilities(changed(final=[30, 4], extra=[0, 1, 0, 0, 0, option, 9, 0]), [expected])

    def test_breakdown_probability_zero(self):
        for fraction in ([0, 1], [0, 7], [0, 100]):
            self.assert_probabilities(changed(final=[30, 4], extra=fraction + [0, 0, 0, 0, 0, 0]), [FINAL])

    def test_breakdown_probability_one(self):
        for fraction in ([1, 1], [7, 7], [100, 100]):
            self.assert_probabilities(changed(extra=fraction + [5, 6, 0, 0, 0, 0]), [BREAKDOWN])
            # There is no breakdown without a rejection, nor where the responder leaves.
            self.assert_probabilities(changed(extra=fraction + [4, 6, 0, 0, 0, 0]), [AGREEMENT])
            self.assert_probabilities(changed(extra=fraction + [5, 6, 0, 6, 5, 0]), [LEAVING])

    def test_lowest_terms(self):
        for fraction, expected in (([2, 4], [1, 2, 1, 2]), ([36, 99], [4, 11, 7, 11]), ([25, 100], [1, 4, 3, 4])):
            self.assert_probabilities(
                changed(final=[60, 4], extra=fraction + [0, 0, 0, 0, 0, 0]), [[0, 0, 1, 0, 1] + expected])


class SeveralRounds(Probabilities):
    def test_continuing_before_an_agreement(self):
        # The outcomes are 2, 0 and 1.
        self.assert_probabilities(
            changed(proposers=[0, 1, 0], discounts=[1, 2, 1, 1], final=[3, 0], extra=[1, 2, 0, 12, 2, 6, 8, 0]),
            [[0, 1, 2, 0, 1, 1, 2, 0, 1], AGREEMENT, LEAVING])

    def test_continuing_behind_the_given_round_only(self):
        # The outcomes are 1, 2 and 0.
        self.assert_probabilities(
            changed(proposers=[0, 1, 0], discounts=[1, 1, 1, 2], final=[1, 12], extra=[1, 2, 12, 0, 4, 2, 9, 0]),
            [LEAVING, [0, 1, 2, 0, 1, 1, 2, 0, 1], AGREEMENT])

    def test_continuing_in_the_last_round_only(self):
        # The outcomes are 0, 1 and 2.
        self.assert_probabilities(
            changed(proposers=[0, 1, 0], discounts=[1, 2, 1, 1], final=[2, 14], extra=[0, 1, 0, 0, 3, 0, 0, 8]),
            [AGREEMENT, LEAVING, FINAL])

    def test_continuing_before_a_responder_who_leaves(self):
        self.assert_probabilities(
            chain_before_leaving([1, 4]), [[0, 0, 1, 9, 16, 7, 16, 0, 1], [0, 0, 1, 3, 4, 1, 4, 0, 1], LEAVING])
        self.assert_probabilities(chain_before_leaving([0, 4]), [LEAVING, LEAVING, LEAVING])

    def test_continuing_up_to_the_final_payoffs(self):
        alike = {"proposers": [0, 1, 1], "discounts": [1, 1, 1, 1], "final": [6, 6]}
        self.assert_probabilities(changed(extra=[1, 3, 6, 6, 0, 0, 0, 0], **alike), [
            [0, 0, 1, 0, 1, 19, 27, 8, 27], [0, 0, 1, 0, 1, 5, 9, 4, 9], [0, 0, 1, 0, 1, 1, 3, 2, 3]])
        self.assert_probabilities(changed(extra=[0, 3, 6, 6, 0, 0, 0, 0], **alike), [FINAL] * 3)
        self.assert_probabilities(changed(extra=[3, 3, 6, 6, 0, 0, 0, 0], **alike), [BREAKDOWN] * 3)

    def test_a_probability_is_no_worth(self):
        # The discount factors count in the payoffs alone.
        self.assert_probabilities(
            changed(proposers=[0, 1], final=[60, 60], extra=[1, 2, 0, 0, 0, 0, 0, 0]),
            [AGREEMENT, [0, 0, 1, 0, 1, 1, 2, 1, 2]])
        self.assert_probabilities(
            changed(proposers=[0, 1], final=[300, 300], extra=[1, 2, 0, 0, 0, 0, 0, 0]),
            [[0, 0, 1, 0, 1, 3, 4, 1, 4], [0, 0, 1, 0, 1, 1, 2, 1, 2]])


class TwelveRounds(Probabilities):
    proposers = [0, 1, 1, 0] * 3

    def test_up_to_the_final_payoffs(self):
        for numerator in (1, 37, 50, 98, 99):
            expected = []
            for left in range(12, 0, -1):
                passed = Fraction(100 - numerator, 100) ** left
                expected.append(answer(Fraction(0), Fraction(0), 1 - passed, passed))
            self.assert_probabilities(
                changed(proposers=self.proposers, discounts=[1, 1, 1, 1], final=[6, 6],
                        extra=[numerator, 100, 6, 6, 0, 0, 0, 0]),
                expected)

    def test_numbers_of_many_digits(self):
        negotiation = changed(proposers=self.proposers, discounts=[1, 1, 1, 1], final=[6, 6],
                              extra=[1, 100, 6, 6, 0, 0, 0, 0])
        self.assertEqual(found(negotiation), [
            0, 0, 1, 0, 1, 113615128283870719341199, 1000000000000000000000000,
            886384871716129280658801, 1000000000000000000000000])

    def test_eleven_rounds_that_continue_before_an_agreement(self):
        # The continuation values add up to 1/5 in the last round and to more than the amount in those before it.
        expected = []
        for left in range(11, -1, -1):
            passed = Fraction(99, 100) ** left
            expected.append(answer(passed, Fraction(0), 1 - passed, Fraction(0)))
        self.assert_probabilities(
            changed(proposers=self.proposers, discounts=[1, 1, 1, 1], final=[0, 0],
                    extra=[1, 100, 10, 10, 0, 0, 0, 0]),
            expected)

    def test_each_round_ends_alike(self):
        alike = {"proposers": self.proposers, "discounts": [1, 1, 1, 1]}
        self.assert_probabilities(changed(final=[4, 6], extra=[0, 100, 0, 0, 0, 0, 0, 0], **alike), [AGREEMENT] * 12)
        self.assert_probabilities(changed(final=[6, 6], extra=[0, 100, 0, 0, 9, 9, 2, 2], **alike), [LEAVING] * 12)
        self.assert_probabilities(changed(final=[6, 6], extra=[0, 100, 0, 0, 0, 0, 0, 0], **alike), [FINAL] * 12)
        self.assert_probabilities(changed(final=[6, 6], extra=[100, 100, 6, 6, 0, 0, 0, 0], **alike), [BREAKDOWN] * 12)


class ByTheWords(unittest.TestCase):
    """Many negotiations against the document's terms."""

    @classmethod
    def setUpClass(cls):
        cls.rounds = drawn_rounds(500)
        cls.rounds += [(negotiation, 0, Terms(negotiation, 0))
                       for negotiation in drawn_chains(500) + negotiations_at_the_limits()]

    def test_probabilities(self):
        for negotiation, the_round, terms in self.rounds:
            self.assertEqual(found(negotiation, the_round), answer(*terms.probabilities()), (negotiation, the_round))

    def test_they_add_up_to_one(self):
        for negotiation, the_round, terms in self.rounds:
            values = [Fraction(*pair) for pair in pairs(found(negotiation, the_round))]
            self.assertEqual(len(values), 4)
            self.assertEqual(sum(values), 1, (negotiation, the_round))

    def test_each_is_in_lowest_terms_and_from_zero_to_one(self):
        for negotiation, the_round, terms in self.rounds:
            for numerator, denominator in pairs(found(negotiation, the_round)):
                self.assertGreaterEqual(denominator, 1)
                self.assertTrue(0 <= numerator <= denominator, (negotiation, the_round))
                self.assertEqual(gcd(numerator, denominator), 1, (negotiation, the_round))

    def test_they_fit_the_outcome(self):
        for negotiation, the_round, terms in self.rounds:
            ending = outcome(the_round=the_round, **negotiation)
            if ending == [0]:
                self.assertEqual(found(negotiation, the_round), AGREEMENT)
            if ending == [1]:
                self.assertEqual(found(negotiation, the_round), LEAVING)
            if ending == [2]:
                self.assert_mixed_from_the_next_round(negotiation, the_round)

    def assert_mixed_from_the_next_round(self, negotiation, the_round):
        breakdown = Fraction(*negotiation["extra"][:2])
        last = the_round + 1 == len(negotiation["proposers"])
        later = FINAL if last else found(negotiation, the_round + 1)
        expected = [(1 - breakdown) * Fraction(*pair) for pair in pairs(later)]
        expected[2] += breakdown
        self.assertEqual(found(negotiation, the_round), answer(*expected), (negotiation, the_round))

    def test_every_ending_occurs_behind_rounds_that_continue(self):
        seen = set()
        for negotiation, the_round, terms in self.rounds:
            continuing = 0
            step = terms
            while step is not None and step.outcome() == 2:
                continuing += 1
                step = step.next_round
            if 0 < terms.breakdown < 1:
                seen.add((terms.proposer, min(continuing, 3), 3 if step is None else step.outcome()))
        wanted = {(proposer, continuing, place)
                  for proposer in (0, 1) for continuing in (1, 2, 3) for place in (0, 1, 3)}
        self.assertEqual(wanted - seen, set())

    def test_the_players_names_don_t_matter(self):
        for negotiation, the_round, terms in self.rounds:
            self.assertEqual(found(mirrored(negotiation), the_round), found(negotiation, the_round))

    def test_earlier_rounds_don_t_matter(self):
        for negotiation, the_round, terms in self.rounds:
            shorter = dict(negotiation, proposers=negotiation["proposers"][the_round:])
            self.assertEqual(found(shorter), found(negotiation, the_round))


class Calls(EveryOperation, unittest.TestCase):
    numbers_of_an_answer = 9

    def answers(self, negotiation, the_round=0):
        return [found(negotiation, the_round)]

    def answers_by_the_words(self, negotiation, the_round=0):
        return [answer(*Terms(negotiation, the_round).probabilities())]

    def test_the_order_of_the_arguments(self):
        negotiation = chain_before_leaving([1, 4])
        self.assertEqual(
            outcome_probabilities(negotiation["amount"], 1, negotiation["proposers"], negotiation["discounts"],
                                  negotiation["final"], negotiation["extra"]),
            [0, 0, 1, 3, 4, 1, 4, 0, 1])


if __name__ == "__main__":
    unittest.main()
