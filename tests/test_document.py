"""What the document promises over the whole program: its examples, its requirements, its interface."""

import copy
import inspect
import random
import unittest
from fractions import Fraction

from leaveoffers import offers
from leaveoffers.offers import (outcome, outcome_probabilities, payoff, payoff_of_offer, reservation_value,
                                value_of_outside_option)
from negotiations import LARGEST, changed, drawn_fraction, drawn_rounds, offers_around, untouchable, without_option

SHARED = ["proposers", "discounts", "final", "extra"]
ARGUMENTS = {
    "payoff": ["amount", "the_round", "player"] + SHARED,
    "reservation_value": ["amount", "the_round"] + SHARED,
    "outcome": ["amount", "the_round"] + SHARED,
    "payoff_of_offer": ["amount", "the_round", "num", "den"] + SHARED,
    "outcome_probabilities": ["amount", "the_round"] + SHARED,
    "value_of_outside_option": ["amount", "the_round", "player"] + SHARED,
}
NUMBERS_OF_AN_ANSWER = {
    "payoff": 3, "reservation_value": 3, "outcome": 1, "payoff_of_offer": 3, "outcome_probabilities": 9,
    "value_of_outside_option": 3}


def fractions(numbers):
    return [Fraction(numbers[k], numbers[k + 1]) for k in range(1, len(numbers), 2)]


def payoffs_of(negotiation, the_round):
    """The payoffs of the round as the program answers them; behind the last round, the final payoffs."""
    if the_round == len(negotiation["proposers"]):
        return [Fraction(value) for value in negotiation["final"]]
    return [fractions(payoff(the_round=the_round, player=player, **negotiation))[0] for player in (0, 1)]


def continuation_of(negotiation, the_round, player):
    breakdown = Fraction(*negotiation["extra"][:2])
    discount = Fraction(*negotiation["discounts"][2 * player:2 * player + 2])
    later = payoffs_of(negotiation, the_round + 1)[player]
    return breakdown * negotiation["extra"][2 + player] + (1 - breakdown) * discount * later


def responder_of(negotiation, the_round):
    return 1 - negotiation["proposers"][the_round]


def rounds_from(negotiation, the_round):
    return range(the_round, len(negotiation["proposers"]))


class Examples(unittest.TestCase):
    def test_every_row(self):
        p = [0]
        d = [1, 2, 1, 2]
        f = [2, 4]
        e = [1, 4, 0, 0, 0, 3, 1, 0]
        self.assertEqual(payoff(10, 0, 0, p, d, f, e), [0, 7, 1])
        self.assertEqual(reservation_value(10, 0, p, d, f, e), [0, 3, 1])
        self.assertEqual(payoff_of_offer(10, 0, 2, 1, p, d, f, e), [0, 1, 1])
        self.assertEqual(value_of_outside_option(10, 0, 1, p, d, f, e), [0, 3, 2])
        self.assertEqual(payoff(10, 1, 0, p, d, f, e), [-2])
        self.assertEqual((p, d, f, e), ([0], [1, 2, 1, 2], [2, 4], [1, 4, 0, 0, 0, 3, 1, 0]))


class Equilibrium(unittest.TestCase):
    """Requirement 1."""

    @classmethod
    def setUpClass(cls):
        cls.rounds = [(negotiation, the_round) for negotiation, the_round, terms in drawn_rounds(400)]

    def assert_none_gives_more(self, negotiation, the_round, all_offers):
        best = payoffs_of(negotiation, the_round)[negotiation["proposers"][the_round]]
        for num, den in all_offers:
            gained = fractions(payoff_of_offer(the_round=the_round, num=num, den=den, **negotiation))[0]
            self.assertLessEqual(gained, best, (negotiation, the_round, num, den))

    def test_offers_around_the_reservation_value(self):
        seen = set()
        for negotiation, the_round in self.rounds:
            value = fractions(reservation_value(the_round=the_round, **negotiation))[0]
            self.assert_none_gives_more(negotiation, the_round, offers_around(value, negotiation["amount"]))
            seen.add((outcome(the_round=the_round, **negotiation)[0], negotiation["proposers"][the_round]))
        self.assertEqual(seen, {(ending, proposer) for ending in (0, 1, 2) for proposer in (0, 1)})

    def test_offers_with_small_denominators(self):
        for negotiation, the_round in self.rounds[::9]:
            amount = negotiation["amount"]
            self.assert_none_gives_more(
                negotiation, the_round,
                [(num, den) for den in range(1, 9) for num in range(0, amount * den + 1, 1 + amount // 20)])


class Reservation(unittest.TestCase):
    """Requirement 2."""

    def test_the_responder_gets_no_less_than_by_rejecting(self):
        for negotiation, the_round, terms in drawn_rounds(400):
            responder = responder_of(negotiation, the_round)
            gained = payoffs_of(negotiation, the_round)[responder]
            self.assertGreaterEqual(gained, negotiation["extra"][4 + responder])
            self.assertGreaterEqual(gained, continuation_of(negotiation, the_round, responder))
            self.assertEqual(fractions(reservation_value(the_round=the_round, **negotiation)), [gained])


class IneffectiveOutsideOptions(unittest.TestCase):
    """Requirement 3."""

    def is_ineffective(self, negotiation, the_round, player):
        return all(negotiation["extra"][4 + player] < continuation_of(negotiation, step, player)
                   for step in rounds_from(negotiation, the_round) if responder_of(negotiation, step) == player)

    def test_the_payoffs_are_the_same_without_them(self):
        met = {0: 0, 1: 0}
        for negotiation, the_round, terms in drawn_rounds(800):
            for player in (0, 1):
                option = negotiation["extra"][4 + player]
                if option > 0 and self.is_ineffective(negotiation, the_round, player):
                    met[player] += 1
                    self.assert_the_same(negotiation, without_option(negotiation, player), the_round)
                    self.assertEqual(
                        value_of_outside_option(the_round=the_round, player=player, **negotiation), [0, 0, 1])
        self.assertGreater(min(met.values()), 100)

    def assert_the_same(self, negotiation, without, the_round):
        self.assertEqual(payoffs_of(negotiation, the_round), payoffs_of(without, the_round))
        for operation in (reservation_value, outcome, outcome_probabilities):
            self.assertEqual(operation(the_round=the_round, **negotiation), operation(the_round=the_round, **without))


def bare_negotiations(count):
    """Negotiations, the same ones in every run, without breakdown, outside options and abandoned payoffs."""
    source = random.Random(11)
    cases = []
    for number in range(count):
        most = source.choice([3, 12, 1000])
        cases.append({
            "amount": source.randint(1, most),
            "proposers": [source.randint(0, 1) for step in range(source.randint(1, 12))],
            "discounts": drawn_fraction(source, 100) + drawn_fraction(source, 100),
            "final": [source.randint(0, most) for player in range(2)],
            "extra": ([0, source.randint(1, 100)] + [source.randint(0, 1000) for player in range(2)] + [0] * 4),
        })
    return cases


def alternating_offers(negotiation, the_round):
    """The payoffs of bargaining in which an offer is accepted or rejected, and nothing else can happen."""
    values = [Fraction(value) for value in negotiation["final"]]
    for step in reversed(rounds_from(negotiation, the_round)):
        proposer = negotiation["proposers"][step]
        values = [Fraction(*negotiation["discounts"][2 * player:2 * player + 2]) * values[player]
                  for player in (0, 1)]
        values[proposer] = max(values[proposer], negotiation["amount"] - values[1 - proposer])
    return values


class Probabilities(unittest.TestCase):
    """Requirement 4."""

    def test_they_add_up_to_one(self):
        for negotiation, the_round, terms in drawn_rounds(400):
            values = fractions(outcome_probabilities(the_round=the_round, **negotiation))
            self.assertEqual((len(values), sum(values)), (4, 1))

    def test_bargaining_with_alternating_offers(self):
        met = set()
        for negotiation in bare_negotiations(400):
            for the_round in rounds_from(negotiation, 0):
                if all(continuation_of(negotiation, step, responder_of(negotiation, step)) > 0
                       for step in rounds_from(negotiation, the_round)):
                    met.add((outcome(the_round=the_round, **negotiation)[0], len(negotiation["proposers"])))
                    self.assertEqual(payoffs_of(negotiation, the_round), alternating_offers(negotiation, the_round))
        self.assertEqual(met, {(ending, rounds) for ending in (0, 2) for rounds in range(1, 13)})

    def test_a_responder_whose_continuation_value_is_zero_leaves(self):
        # The requirement leaves this case out: player 0 could otherwise have 30.
        negotiation = changed(discounts=[1, 1, 1, 1], final=[30, 0], extra=[0, 1, 0, 0, 0, 0, 0, 0])
        self.assertEqual(payoffs_of(negotiation, 0), [10, 0])
        self.assertEqual(alternating_offers(negotiation, 0), [30, 0])


def is_fraction(numerator, denominator):
    return numerator <= denominator and denominator in range(1, 101)


def expected_code(request):
    """The error code by the document's table, or 0."""
    discounts = request["discounts"]
    extra = request["extra"]
    within = [
        request["amount"] in range(1, 1001),
        len(request["proposers"]) in range(1, 13) and set(request["proposers"]) <= {0, 1},
        len(discounts) == 4 and is_fraction(*discounts[:2]) and is_fraction(*discounts[2:]),
        len(request["final"]) == 2 and max(request["final"]) <= 1000,
        len(extra) == 8 and is_fraction(*extra[:2]) and max(extra[2:]) <= 1000,
    ]
    if not all(within):
        return -22
    if request["the_round"] not in range(len(request["proposers"])) or request.get("player", 0) not in (0, 1):
        return -2
    if "den" in request and not (request["den"] in range(1, 1001)
                                 and request["num"] <= request["amount"] * request["den"]):
        return -22
    return 0


def drawn_requests(count):
    """Requests within what may be handed in, the same ones in every run; most have few faults or none."""
    source = random.Random(3)

    def number(*usual):
        strange = [0, 1, 2, 100, 101, 1000, 1001, LARGEST, source.randint(0, LARGEST)]
        return source.choice(strange) if source.random() < 0.03 else source.choice(usual)

    def some(usual_length, most):
        return source.randint(0, most) if source.random() < 0.06 else usual_length

    requests = []
    for step in range(count):
        name = source.choice(sorted(ARGUMENTS))
        values = {
            "amount": number(1, 10, 1000),
            "the_round": number(0, 0, 1, 5, 11, 12),
            "player": number(0, 1),
            "num": number(0, 1, 3, 999, 1000),
            "den": number(1, 2, 999, 1000),
            "proposers": [number(0, 1) for k in range(some(source.randint(1, 12), 14))],
            "discounts": [number(*((0, 1, 2) if k % 2 == 0 else (2, 3, 100))) for k in range(some(4, 6))],
            "final": [number(0, 5, 1000) for k in range(some(2, 4))],
            "extra": [number(*((0, 1), (2, 100))[k]) if k < 2 else number(0, 3, 1000) for k in range(some(8, 10))],
        }
        requests.append((name, {argument: values[argument] for argument in ARGUMENTS[name]}))
    return requests


def ask(request):
    name, values = request
    return getattr(offers, name)(**values)


class Interface(unittest.TestCase):
    def test_names_and_arguments(self):
        for name, arguments in ARGUMENTS.items():
            parameters = inspect.signature(getattr(offers, name)).parameters.values()
            self.assertEqual([parameter.name for parameter in parameters], arguments, name)
            for parameter in parameters:
                self.assertIs(parameter.kind, inspect.Parameter.POSITIONAL_OR_KEYWORD)
                self.assertIs(parameter.default, inspect.Parameter.empty)

    def test_everything_that_may_be_handed_in_is_answered(self):
        met = {}
        for request in drawn_requests(6000):
            name, values = request
            code = expected_code(values)
            found = ask(request)
            if code != 0:
                self.assertEqual(found, [code], request)
            else:
                self.assertEqual(len(found), NUMBERS_OF_AN_ANSWER[name], request)
                self.assertGreaterEqual(found[0], 0, request)
            met[(name, code)] = met.get((name, code), 0) + 1
        self.assertEqual(set(met), {(name, code) for name in ARGUMENTS for code in (0, -2, -22)})
        self.assertGreater(min(met.values()), 50)

    def test_nothing_is_changed_and_nothing_is_kept_between_calls_of_all_sorts(self):
        requests = drawn_requests(2000)
        before = copy.deepcopy(requests)
        found = [ask(request) for request in requests]
        self.assertEqual(requests, before)
        again = [ask((name, untouchable(values))) for name, values in reversed(requests)]
        self.assertEqual(again[::-1], found)


if __name__ == "__main__":
    unittest.main()
