"""A play-off of three: how likely each is to win it, how long it takes, and who has won."""

WRESTLERS = 3
NOBODY = 3
HUNDRED = 100
# A hundred to the power of the three bouts of a time round: all chances in it are whole numbers of this.
MILLION = 1000000


class WrongNumber(Exception):
    pass


class NoWrestler(Exception):
    pass


class GoesForEver(Exception):
    pass


class Fraction:
    def __init__(self, above, below):
        divisor = common_divisor(above, below)
        self.above = above // divisor
        self.below = below // divisor

    def exceeds(self, other):
        return self.above * other.below > other.above * self.below

    def told(self):
        return [self.above, self.below]


# The three bouts behind the first one, in each of which another one can win the play-off.
# If nobody does, all is as it was ahead of them: so a chance within all of the play-off is
# the chance within one time round, divided by the chance that this one brings an end.
class TimeRound:
    def __init__(self):
        self.won = [0, 0, 0]
        self.bouts = 0

    def ended(self):
        wins = sum(self.won)
        if wins == 0:
            raise GoesForEver()
        return wins

    def chance(self, wrestler):
        return Fraction(self.won[wrestler], self.ended())

    def length(self):
        return Fraction(self.bouts, self.ended())


class PlayOff:
    # wins holds for each wrestler how many of a hundred it wins against the one behind it (0 is behind 2).
    def __init__(self):
        self.wins = [50, 50, 50]

    def share(self, winner, loser):
        if loser == (winner + 1) % WRESTLERS:
            return self.wins[winner]
        return HUNDRED - self.wins[loser]

    def time_round(self, winner, loser):
        gone = TimeRound()
        left = MILLION
        holder = winner
        beaten = loser
        for bout in range(WRESTLERS):
            comer = third(holder, beaten)
            lost = left * self.share(comer, holder) // HUNDRED
            gone.won[holder] = left - lost
            gone.bouts = gone.bouts + left
            left = lost
            beaten = holder
            holder = comer
        return gone

    def chance(self, one, other, wrestler):
        ahead = self.time_round(one, other).chance(wrestler)
        behind = self.time_round(other, one).chance(wrestler)
        return mean(self.share(one, other), ahead, behind)

    def length(self, one, other):
        ahead = self.time_round(one, other).length()
        behind = self.time_round(other, one).length()
        later = mean(self.share(one, other), ahead, behind)
        return Fraction(later.above + later.below, later.below)

    def begins(self, wins):
        if max(wins) > HUNDRED:
            raise WrongNumber()
        self.wins = list(wins)
        return [0]

    def odds(self, one, other, wrestler):
        need_pair(one, other)
        need_wrestler(wrestler)
        return [0] + self.chance(one, other, wrestler).told()

    def long(self, one, other):
        need_pair(one, other)
        return [0] + self.length(one, other).told()

    def wait(self, wrestler):
        need_wrestler(wrestler)
        # It goes round for ever only if each always beats the same one of the others, and then
        # it does so whoever waits: either each way is left out, or none is.
        chances = [self.chance((who + 1) % WRESTLERS, (who + 2) % WRESTLERS, wrestler) for who in range(WRESTLERS)]
        best = 0
        for who in range(1, WRESTLERS):
            if chances[who].exceeds(chances[best]):
                best = who
        return [best] + chances[best].told()


def common_divisor(one, other):
    while other != 0:
        rest = one % other
        one = other
        other = rest
    return one


def mean(share, ahead, behind):
    above = share * ahead.above * behind.below + (HUNDRED - share) * behind.above * ahead.below
    return Fraction(above, HUNDRED * ahead.below * behind.below)


def third(one, other):
    # The three numbers, 0, 1 and 2, make 3 together.
    return 3 - one - other


def need_wrestler(wrestler):
    if wrestler >= WRESTLERS:
        raise NoWrestler()


def need_pair(one, other):
    need_wrestler(one)
    need_wrestler(other)
    if one == other:
        raise NoWrestler()


def need_bouts(bouts):
    if len(bouts) == 0:
        raise WrongNumber()
    for bout in bouts:
        if bout > 1:
            raise WrongNumber()


def check(one, other, bouts):
    need_pair(one, other)
    need_bouts(bouts)
    holder = one
    beaten = other
    if bouts[0] == 0:
        holder = other
        beaten = one
    for place in range(1, len(bouts)):
        comer = third(holder, beaten)
        if bouts[place] == 1:
            return [holder, place + 1, holder, comer]
        beaten = holder
        holder = comer
    return [NOBODY, len(bouts), holder, beaten]


def taken(play_off, call, told):
    if call == 0:
        return play_off.begins(told)
    if call == 1:
        return play_off.odds(told[0], told[1], told[2])
    if call == 2:
        return play_off.long(told[0], told[1])
    if call == 3:
        return play_off.wait(told[0])
    return check(told[0], told[1], told[2:])


def answer(play_off, call, told):
    try:
        return taken(play_off, call, told)
    except WrongNumber:
        return [-1]
    except NoWrestler:
        return [-2]
    except GoesForEver:
        return [-6]


def answers(calls):
    play_off = PlayOff()
    said = []
    place = 0
    while place < len(calls):
        start = place + 2
        end = start + calls[place + 1]
        answered = answer(play_off, calls[place], calls[start:end])
        said.append(len(answered))
        said.extend(answered)
        # Behind a call's numbers stands how many lists it has, which is always 0.
        place = end + 1
    return said
