"""What the tests share: negotiations, wrong ones, and the document's terms over Fraction."""

import contextlib
import copy
import io
import random
from fractions import Fraction

LARGEST = 4294967295

EXAMPLE = {
    "amount": 10,
    "proposers": [0],
    "discounts": [1, 2, 1, 2],
    "final": [2, 4],
    "extra": [1, 4, 0, 0, 0, 3, 1, 0],
}


def changed(**changes):
    """The document's example with other values in some places."""
    negotiation = dict(EXAMPLE)
    negotiation.update(changes)
    return negotiation


def with_value(values, index, value):
    replaced = list(values)
    replaced[index] = value
    return replaced


def swapped(pairs):
    return [number for k in range(0, len(pairs), 2) for number in (pairs[k + 1], pairs[k])]


def mirrored(negotiation):
    """The same negotiation with the players' names exchanged."""
    discounts = negotiation["discounts"]
    return {
        "amount": negotiation["amount"],
        "proposers": [1 - proposer for proposer in negotiation["proposers"]],
        "discounts": discounts[2:] + discounts[:2],
        "final": swapped(negotiation["final"]),
        "extra": negotiation["extra"][:2] + swapped(negotiation["extra"][2:]),
    }


def without_option(negotiation, player):
    """The same negotiation with the player's outside option at 0."""
    return dict(negotiation, extra=with_value(negotiation["extra"], 4 + player, 0))


def negotiations_at_the_limits():
    """Each limit of the table from within."""
    cases = [changed(amount=1), changed(amount=1000)]
    cases += [changed(proposers=[0] * n) for n in range(1, 13)]
    cases += [changed(proposers=[1] * 12)]
    for fraction in ([0, 1], [1, 1], [0, 100], [100, 100], [99, 100], [1, 100]):
        cases.append(changed(discounts=fraction + [1, 2]))
        cases.append(changed(discounts=[1, 2] + fraction))
        cases.append(changed(extra=fraction + EXAMPLE["extra"][2:]))
    for value in (0, 1000):
        cases += [changed(final=with_value(EXAMPLE["final"], k, value)) for k in range(2)]
        cases += [changed(extra=with_value(EXAMPLE["extra"], k, value)) for k in range(2, 8)]
    return cases


def negotiations_outside_the_limits():
    """Each limit of the table from without, and every other length that may be handed in."""
    cases = [changed(amount=amount) for amount in (0, 1001, LARGEST)]
    cases += [changed(proposers=proposers) for proposers in ([], [0] * 13, [1] * 14, [2], [LARGEST])]
    cases += [changed(proposers=with_value([0] * 12, k, 2)) for k in range(12)]
    cases += [changed(discounts=[1] * n) for n in (0, 1, 2, 3, 5, 6)]
    cases += [changed(final=[1] * n) for n in (0, 1, 3, 4)]
    cases += [changed(extra=[1] * n) for n in (0, 1, 2, 3, 4, 5, 6, 7, 9, 10)]
    for fraction in ([0, 0], [1, 0], [0, 101], [101, 101], [2, 1], [100, 99], [101, 100], [LARGEST, LARGEST]):
        cases.append(changed(discounts=fraction + [1, 2]))
        cases.append(changed(discounts=[1, 2] + fraction))
        cases.append(changed(extra=fraction + EXAMPLE["extra"][2:]))
    for value in (1001, LARGEST):
        cases += [changed(final=with_value(EXAMPLE["final"], k, value)) for k in range(2)]
        cases += [changed(extra=with_value(EXAMPLE["extra"], k, value)) for k in range(2, 8)]
    cases.append(changed(amount=0, proposers=[], discounts=[], final=[], extra=[]))
    return cases


def drawn_fraction(source, most):
    denominator = source.randint(1, most)
    return [source.choice([0, denominator, source.randint(0, denominator)]), denominator]


def drawn_negotiations(count):
    """Negotiations of all sorts, the same ones in every run; small numbers make equalities frequent."""
    source = random.Random(20)
    cases = []
    for number in range(count):
        most = source.choice([3, 3, 12, 1000])
        most_denominator = min(most, 100)
        cases.append({
            "amount": source.randint(1, most),
            "proposers": [source.randint(0, 1) for step in range(source.randint(1, 12))],
            "discounts": drawn_fraction(source, most_denominator) + drawn_fraction(source, most_denominator),
            "final": [source.randint(0, most) for player in range(2)],
            "extra": drawn_fraction(source, most_denominator) + [source.randint(0, most) for k in range(6)],
        })
    return cases


def offers_around(value, amount):
    """The offers within the limits that are closest to the value, and those at both ends."""
    offers = [(0, 1), (0, 1000), (amount, 1), (amount * 1000, 1000)]
    for den in (1, 2, 7, 997, 999, 1000):
        below = value.numerator * den // value.denominator
        offers += [(num, den) for num in (below - 1, below, below + 1) if 0 <= num <= amount * den]
    if value <= amount and value.denominator <= 1000:
        factor = 1000 // value.denominator
        offers.append((value.numerator, value.denominator))
        offers.append((value.numerator * factor, value.denominator * factor))
    return offers


class Terms:
    """The document's terms of one round, each written as the document says it."""

    def __init__(self, negotiation, the_round):
        extra = negotiation["extra"]
        proposers = negotiation["proposers"]
        discounts = negotiation["discounts"]
        self.amount = negotiation["amount"]
        self.proposer = proposers[the_round]
        self.responder = 1 - self.proposer
        if the_round + 1 == len(proposers):
            self.next_round = None
            later = [Fraction(value) for value in negotiation["final"]]
        else:
            self.next_round = Terms(negotiation, the_round + 1)
            later = self.next_round.payoffs
        x = Fraction(extra[0], extra[1])
        self.breakdown = x
        self.continuation = []
        for player in (0, 1):
            d = Fraction(discounts[2 * player], discounts[2 * player + 1])
            self.continuation.append(x * extra[2 + player] + (1 - x) * d * later[player])
        self.outside = extra[4:6]
        self.leaves = self.continuation[self.responder] <= self.outside[self.responder]
        self.reservation = max(self.continuation[self.responder], Fraction(self.outside[self.responder]))
        self.rejection = Fraction(extra[6 + self.proposer]) if self.leaves else self.continuation[self.proposer]
        self.agreement = self.rejection <= self.amount - self.reservation
        self.payoffs = [None, None]
        self.payoffs[self.responder] = self.reservation
        self.payoffs[self.proposer] = self.amount - self.reservation if self.agreement else self.rejection

    def rounds_from_here(self):
        return [self] + ([] if self.next_round is None else self.next_round.rounds_from_here())

    def ending(self):
        return "agreement" if self.agreement else "leaving" if self.leaves else "continuing"

    def outcome(self):
        return {"agreement": 0, "leaving": 1, "continuing": 2}[self.ending()]

    def probabilities(self):
        """Of an agreement, that a responder leaves, of a breakdown and of passing the last round."""
        if self.agreement:
            return [Fraction(1), Fraction(0), Fraction(0), Fraction(0)]
        if self.leaves:
            return [Fraction(0), Fraction(1), Fraction(0), Fraction(0)]
        later = [0, 0, 0, 1] if self.next_round is None else self.next_round.probabilities()
        continued = [(1 - self.breakdown) * probability for probability in later]
        continued[2] += self.breakdown
        return continued

    def payoff_of_offer(self, offer):
        return self.amount - offer if offer >= self.reservation else self.rejection


def drawn_rounds(count):
    """Every round of so many negotiations, with the negotiation and the terms of the round."""
    return [(negotiation, the_round, Terms(negotiation, the_round))
            for negotiation in drawn_negotiations(count)
            for the_round in range(len(negotiation["proposers"]))]


def answer(*values):
    """Rational numbers as the interface answers them."""
    return [0] + [number for value in values for number in (value.numerator, value.denominator)]


class Untouchable(list):
    """A list that can't be changed, not for a while either."""

    def refuse(self, *args, **kwargs):
        raise AssertionError("a list that was handed in was changed")

    append = clear = extend = insert = pop = remove = reverse = sort = refuse
    __setitem__ = __delitem__ = __iadd__ = __imul__ = refuse


def untouchable(negotiation):
    return {name: Untouchable(value) if isinstance(value, list) else value
            for name, value in negotiation.items()}


def call_cases():
    return (drawn_negotiations(60) + negotiations_at_the_limits()
            + negotiations_outside_the_limits() + [changed(proposers=[0, 1] * 6)])


class EveryOperation:
    """What holds for each operation; a test case gives its answers for a negotiation and a round."""

    numbers_of_an_answer = 3

    def answers(self, negotiation, the_round=0):
        raise NotImplementedError

    def answers_by_the_words(self, negotiation, the_round=0):
        raise NotImplementedError

    def test_within_the_limits(self):
        for negotiation in negotiations_at_the_limits():
            self.assertEqual(self.answers(negotiation), self.answers_by_the_words(negotiation), negotiation)

    def test_outside_the_limits(self):
        for negotiation in negotiations_outside_the_limits():
            for the_round in (0, 14, LARGEST):
                for found in self.answers(negotiation, the_round):
                    self.assertEqual(found, [-22], negotiation)

    def test_rounds(self):
        for rounds in (1, 2, 12):
            negotiation = changed(proposers=[0] * rounds)
            self.assertEqual(self.answers(negotiation, rounds - 1),
                             self.answers_by_the_words(negotiation, rounds - 1))
            for the_round in (rounds, rounds + 1, LARGEST):
                for found in self.answers(negotiation, the_round):
                    self.assertEqual(found, [-2])

    def test_what_is_handed_in_is_not_changed(self):
        for negotiation in call_cases():
            for the_round in (0, LARGEST):
                before = copy.deepcopy(negotiation)
                expected = self.answers(negotiation, the_round)
                self.assertEqual(negotiation, before)
                self.assertEqual(self.answers(untouchable(negotiation), the_round), expected)

    def test_nothing_is_kept_between_calls(self):
        first = [self.answers(negotiation) for negotiation in call_cases()]
        expected = copy.deepcopy(first)
        for answers in first:
            for found in answers:
                found.append(5)
        again = [self.answers(negotiation) for negotiation in reversed(call_cases())]
        self.assertEqual(again[::-1], expected)

    def test_an_answer_is_a_list_of_whole_numbers(self):
        for negotiation in call_cases():
            for found in self.answers(negotiation):
                self.assertIs(type(found), list)
                self.assertEqual({type(number) for number in found}, {int})
                self.assertEqual(len(found), 1 if found[0] < 0 else self.numbers_of_an_answer)

    def test_nothing_is_printed(self):
        printed = io.StringIO()
        with contextlib.redirect_stdout(printed), contextlib.redirect_stderr(printed):
            for negotiation in call_cases():
                self.answers(negotiation)
        self.assertEqual(printed.getvalue(), "")
