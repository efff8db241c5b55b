"""How the tests write calls, ask them, and work a play-off out another way."""

from fractions import Fraction

from threebouts.ring import answers

BIGGEST = 4294967295
PAIRS = ((0, 1), (1, 0), (1, 2), (2, 1), (2, 0), (0, 2))
# All uneven, at the rims, and the last ones that do end.
STRENGTHS = (
    (50, 50, 50), (60, 70, 20), (33, 1, 98), (100, 50, 50), (0, 50, 50), (100, 100, 0),
    (0, 100, 0), (0, 0, 100), (7, 100, 0), (90, 80, 75), (10, 25, 30), (100, 100, 37),
    (99, 100, 100), (100, 99, 100), (100, 100, 99), (1, 0, 0), (0, 1, 0), (0, 0, 1),
)


def begins(zero_one, one_two, two_zero):
    return [0, 3, zero_one, one_two, two_zero, 0]


def odds(one, other, wrestler):
    return [1, 3, one, other, wrestler, 0]


def long(one, other):
    return [2, 2, one, other, 0]


def wait(wrestler):
    return [3, 1, wrestler, 0]


def check(one, other, bouts):
    return [4, 2 + len(bouts), one, other] + list(bouts) + [0]


def joined(calls):
    return [number for call in calls for number in call]


def split(said):
    parts = []
    place = 0
    while place < len(said):
        end = place + 1 + said[place]
        parts.append(said[place + 1:end])
        place = end
    return parts


def ask(*calls):
    """The answers of one line, one list a call."""
    return split(answers(joined(calls)))


def share(strengths, winner, loser):
    table = {(0, 1): 0, (1, 2): 1, (2, 0): 2}
    if (winner, loser) in table:
        return Fraction(strengths[table[winner, loser]], 100)
    return 1 - Fraction(strengths[table[loser, winner]], 100)


def worked_out(strengths, one, other):
    """How likely 0, 1 and 2 are to win and how long it takes: from each state's equation, for each
    state is followed round until it comes again."""
    won = [Fraction(0)] * 3
    length = Fraction(1)
    for holder, beaten in ((one, other), (other, one)):
        first = share(strengths, holder, beaten)
        here = (holder, beaten)
        reached = Fraction(1)
        brought = [Fraction(0)] * 3
        bouts = Fraction(0)
        while True:
            comer = ({0, 1, 2} - {holder, beaten}).pop()
            bouts += reached
            brought[holder] += reached * share(strengths, holder, comer)
            reached *= share(strengths, comer, holder)
            holder, beaten = comer, holder
            if (holder, beaten) == here:
                break
        won = [chance + first * part / (1 - reached) for chance, part in zip(won, brought)]
        length += first * bouts / (1 - reached)
    return won, length


def walked(strengths, one, other, most):
    """The same, bout by bout for the first `most` bouts: who has won, how many bouts were wrestled
    on the average, and how likely it still goes on."""
    states = {(one, other): share(strengths, one, other), (other, one): share(strengths, other, one)}
    won = [Fraction(0)] * 3
    length = Fraction(1)
    for bout in range(1, most):
        length += sum(states.values())
        later = {}
        for (holder, beaten), chance in states.items():
            comer = ({0, 1, 2} - {holder, beaten}).pop()
            won[holder] += chance * share(strengths, holder, comer)
            later[comer, holder] = later.get((comer, holder), 0) + chance * share(strengths, comer, holder)
        states = later
    return won, length, sum(states.values())


def fraction(chance):
    return [chance.numerator, chance.denominator]
