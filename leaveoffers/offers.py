"""The operations on a negotiation, by backward induction from the final payoffs.

A rational number is a tuple (numerator, denominator) in lowest terms, its denominator at least 1.
The payoffs of a round are a tuple of two such numbers, the one of player 0 first.
"""

MOST_AMOUNT = 1000
MOST_ROUNDS = 12
MOST_DENOMINATOR = 100
MOST_PAYOFF = 1000
MOST_OFFER_DENOMINATOR = 1000


def greatest_common_divisor(first, second):
    larger = first
    smaller = second
    while smaller != 0:
        rest = larger % smaller
        larger = smaller
        smaller = rest
    return larger


def lowest_terms(numerator, denominator):
    divisor = greatest_common_divisor(numerator, denominator)
    return (numerator // divisor, denominator // divisor)


def is_at_most(left, right):
    return left[0] * right[1] <= right[0] * left[1]


def whole_minus(whole, value):
    # Still in lowest terms: what divides both new numbers divides both numbers of the value.
    return (whole * value[1] - value[0], value[1])


def minus(left, right):
    return lowest_terms(left[0] * right[1] - right[0] * left[1], left[1] * right[1])


def is_fraction_within_limits(numerator, denominator):
    return 1 <= denominator <= MOST_DENOMINATOR and 0 <= numerator <= denominator


def are_payoffs_within_limits(payoffs):
    return all([0 <= value <= MOST_PAYOFF for value in payoffs])


def are_proposers_within_limits(proposers):
    return 1 <= len(proposers) <= MOST_ROUNDS and all([0 <= proposer <= 1 for proposer in proposers])


def are_discounts_within_limits(discounts):
    if len(discounts) != 4:
        return False
    return (is_fraction_within_limits(discounts[0], discounts[1])
            and is_fraction_within_limits(discounts[2], discounts[3]))


def is_extra_within_limits(extra):
    if len(extra) != 8:
        return False
    return is_fraction_within_limits(extra[0], extra[1]) and are_payoffs_within_limits(extra[2:])


def is_negotiation_within_limits(amount, proposers, discounts, final, extra):
    return (1 <= amount <= MOST_AMOUNT
            and are_proposers_within_limits(proposers)
            and are_discounts_within_limits(discounts)
            and len(final) == 2
            and are_payoffs_within_limits(final)
            and is_extra_within_limits(extra))


def is_offer_within_limits(amount, num, den):
    return 1 <= den <= MOST_OFFER_DENOMINATOR and num <= amount * den


def refusal(amount, the_round, player, proposers, discounts, final, extra):
    """The error code of a call, or 0 if it is to be answered.

    An operation without a player hands in player 0, who always exists: only the round can be missing then.
    """
    if not is_negotiation_within_limits(amount, proposers, discounts, final, extra):
        return -22
    if not (0 <= the_round < len(proposers) and 0 <= player <= 1):
        return -2
    return 0


def outside_option(player, extra):
    return (extra[4 + player], 1)


def without_outside_option(player, extra):
    # A copy, as what was handed in is not changed, not for a while either.
    copied = list(extra)
    copied[4 + player] = 0
    return copied


def abandoned_payoff(player, extra):
    return (extra[6 + player], 1)


def continuation_value(player, later, discounts, extra):
    """x * b + (1 - x) * d * v, with the payoffs of the next round in later."""
    breakdown_numerator = extra[0]
    breakdown_denominator = extra[1]
    breakdown_payoff = extra[2 + player]
    discount_numerator = discounts[2 * player]
    discount_denominator = discounts[2 * player + 1]
    value = later[player]
    broken_down = breakdown_numerator * breakdown_payoff * discount_denominator * value[1]
    continued = (breakdown_denominator - breakdown_numerator) * discount_numerator * value[0]
    return lowest_terms(broken_down + continued, breakdown_denominator * discount_denominator * value[1])


def does_leave(responder, later, discounts, extra):
    return is_at_most(continuation_value(responder, later, discounts, extra), outside_option(responder, extra))


def responder_payoff(responder, later, discounts, extra):
    """The reservation value of the round."""
    # Who leaves does so because the outside option is the greater of the two, or equal.
    if does_leave(responder, later, discounts, extra):
        return outside_option(responder, extra)
    return continuation_value(responder, later, discounts, extra)


def rejection_payoff(proposer, later, discounts, extra):
    if does_leave(1 - proposer, later, discounts, extra):
        return abandoned_payoff(proposer, extra)
    return continuation_value(proposer, later, discounts, extra)


def agreement_payoff(amount, proposer, later, discounts, extra):
    return whole_minus(amount, responder_payoff(1 - proposer, later, discounts, extra))


def is_agreement(amount, proposer, later, discounts, extra):
    return is_at_most(rejection_payoff(proposer, later, discounts, extra),
                      agreement_payoff(amount, proposer, later, discounts, extra))


def proposer_payoff(amount, proposer, later, discounts, extra):
    if is_agreement(amount, proposer, later, discounts, extra):
        return agreement_payoff(amount, proposer, later, discounts, extra)
    return rejection_payoff(proposer, later, discounts, extra)


def round_payoffs(amount, proposer, later, discounts, extra):
    gained = proposer_payoff(amount, proposer, later, discounts, extra)
    reservation = responder_payoff(1 - proposer, later, discounts, extra)
    if proposer == 0:
        return (gained, reservation)
    return (reservation, gained)


def round_outcome(amount, proposer, later, discounts, extra):
    if is_agreement(amount, proposer, later, discounts, extra):
        return 0
    if does_leave(1 - proposer, later, discounts, extra):
        return 1
    return 2


def offer_payoff(amount, offer, proposer, later, discounts, extra):
    """What the proposer gets with this offer."""
    if is_at_most(responder_payoff(1 - proposer, later, discounts, extra), offer):
        return whole_minus(amount, offer)
    return rejection_payoff(proposer, later, discounts, extra)


def ending_probabilities(outcomes, extra):
    """The probabilities of an agreement, leaving, a breakdown and passing the last round, by the rounds' outcomes."""
    place = 3
    reached = (1, 1)
    for ending in outcomes:
        if ending != 2:
            # Agreement and leaving stand in the order of their outcomes; no round behind this one is reached.
            place = ending
            break
        reached = lowest_terms(reached[0] * (extra[1] - extra[0]), reached[1] * extra[1])
    probabilities = [(0, 1), (0, 1), whole_minus(1, reached), (0, 1)]
    probabilities[place] = reached
    return probabilities


def payoffs_from(amount, the_round, proposers, discounts, final, extra):
    """The payoffs of the round; behind the last round, the final payoffs."""
    payoffs = ((final[0], 1), (final[1], 1))
    for proposer in reversed(proposers[the_round:]):
        payoffs = round_payoffs(amount, proposer, payoffs, discounts, extra)
    return payoffs


def outcome_of_round(amount, the_round, proposers, discounts, final, extra):
    later = payoffs_from(amount, the_round + 1, proposers, discounts, final, extra)
    return round_outcome(amount, proposers[the_round], later, discounts, extra)


def answer_with(values):
    numbers = [0]
    for value in values:
        numbers.extend(value)
    return numbers


def payoff(amount, the_round, player, proposers, discounts, final, extra):
    code = refusal(amount, the_round, player, proposers, discounts, final, extra)
    if code != 0:
        return [code]
    value = payoffs_from(amount, the_round, proposers, discounts, final, extra)[player]
    return answer_with([value])


def reservation_value(amount, the_round, proposers, discounts, final, extra):
    code = refusal(amount, the_round, 0, proposers, discounts, final, extra)
    if code != 0:
        return [code]
    responder = 1 - proposers[the_round]
    value = payoffs_from(amount, the_round, proposers, discounts, final, extra)[responder]
    return answer_with([value])


def outcome(amount, the_round, proposers, discounts, final, extra):
    code = refusal(amount, the_round, 0, proposers, discounts, final, extra)
    if code != 0:
        return [code]
    return [outcome_of_round(amount, the_round, proposers, discounts, final, extra)]


def payoff_of_offer(amount, the_round, num, den, proposers, discounts, final, extra):
    code = refusal(amount, the_round, 0, proposers, discounts, final, extra)
    if code != 0:
        return [code]
    if not is_offer_within_limits(amount, num, den):
        return [-22]
    later = payoffs_from(amount, the_round + 1, proposers, discounts, final, extra)
    value = offer_payoff(amount, lowest_terms(num, den), proposers[the_round], later, discounts, extra)
    return answer_with([value])


def outcome_probabilities(amount, the_round, proposers, discounts, final, extra):
    code = refusal(amount, the_round, 0, proposers, discounts, final, extra)
    if code != 0:
        return [code]
    outcomes = [outcome_of_round(amount, each, proposers, discounts, final, extra)
                for each in range(the_round, len(proposers))]
    return answer_with(ending_probabilities(outcomes, extra))


def value_of_outside_option(amount, the_round, player, proposers, discounts, final, extra):
    code = refusal(amount, the_round, player, proposers, discounts, final, extra)
    if code != 0:
        return [code]
    bare = without_outside_option(player, extra)
    value = payoffs_from(amount, the_round, proposers, discounts, final, extra)[player]
    bare_value = payoffs_from(amount, the_round, proposers, discounts, final, bare)[player]
    return answer_with([minus(value, bare_value)])
