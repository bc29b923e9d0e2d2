"""One island of chameleons: the calls about it, and what they answer."""

BEGINS = 0
RULE = 1
OLD = 2
ARE = 3
MEET = 4

# How many whole numbers stand behind each call's own number, by that number.
# A row's length is one of them; the row itself is not counted.
NUMBERS_BEHIND = (1, 4, 0, 1, 2, 0)

FEWEST_COLOURS = 2
MOST_COLOURS = 4
OLD_COLOURS = 3
MOST_TOGETHER = 7

NO_SUCH = -1
NOT_THERE = -2
NO_CHANGE = -4
CANNOT_BE = -6


def in_order(a, b):
    """The two colours as a pair, the lower first."""
    if a <= b:
        return (a, b)
    return (b, a)


def pairs_of(colours):
    """Every two colours, in the order of meetings."""
    pairs = []
    for a in range(colours):
        for b in range(a, colours):
            pairs.append((a, b))
    return pairs


def unchanging_rule(colours):
    """The rule by which every two colours stay what they are."""
    becomes = {}
    for pair in pairs_of(colours):
        becomes[pair] = pair
    return becomes


def old_rule():
    """The rule of three colours by which two unlike ones both become the third."""
    becomes = unchanging_rule(OLD_COLOURS)
    for pair in pairs_of(OLD_COLOURS):
        if pair[0] != pair[1]:
            # The colours 0, 1 and 2 are 3 together, so the third is what is left of 3.
            third = 3 - pair[0] - pair[1]
            becomes[pair] = (third, third)
    return becomes


def are_there(stand, pair):
    """Whether the stand has a chameleon for each of the pair."""
    if pair[0] == pair[1]:
        return stand[pair[0]] >= 2
    return stand[pair[0]] >= 1 and stand[pair[1]] >= 1


def stand_behind(stand, pair, changed):
    """A new stand: the old one once the pair has become the changed pair."""
    behind = list(stand)
    for colour in pair:
        behind[colour] -= 1
    for colour in changed:
        behind[colour] += 1
    return behind


def possible_meetings(becomes, stand):
    """The pairs that can meet in the stand and are changed by it, in order."""
    possible = []
    for pair in pairs_of(len(stand)):
        if are_there(stand, pair) and becomes[pair] != pair:
            possible.append(pair)
    return possible


class Island:
    """The colours, the rule for every two of them, and how it stands now.

    Each method of a call's name gives back the list of numbers that the call answers.
    """

    def __init__(self):
        self.colours = OLD_COLOURS
        self.becomes = old_rule()
        self.stand = [0] * OLD_COLOURS

    def lacks_any(self, named):
        """Whether one of the named colours is not on this island."""
        for colour in named:
            if colour >= self.colours:
                return True
        return False

    def changing_rules(self):
        """How many pairs become something else."""
        changing = 0
        for pair, changed in self.becomes.items():
            if changed != pair:
                changing += 1
        return changing

    def begins(self, k):
        if k < FEWEST_COLOURS or k > MOST_COLOURS:
            return [NO_SUCH]
        self.colours = k
        self.becomes = unchanging_rule(k)
        self.stand = [0] * k
        return [0]

    def rule(self, a, b, c, d):
        if self.lacks_any((a, b, c, d)):
            return [NO_SUCH]
        self.becomes[in_order(a, b)] = in_order(c, d)
        return [self.changing_rules()]

    def old(self):
        if self.colours != OLD_COLOURS:
            return [CANNOT_BE]
        self.becomes = old_rule()
        return [self.changing_rules()]

    def are(self, stand):
        if len(stand) != self.colours or sum(stand) > MOST_TOGETHER:
            return [NO_SUCH]
        self.stand = list(stand)
        return [sum(stand)]

    def meet(self, a, b):
        if self.lacks_any((a, b)):
            return [NO_SUCH]
        pair = in_order(a, b)
        if not are_there(self.stand, pair):
            return [NOT_THERE]
        changed = self.becomes[pair]
        if changed == pair:
            return [NO_CHANGE]
        self.stand = stand_behind(self.stand, pair, changed)
        return list(self.stand)

    def may(self):
        possible = possible_meetings(self.becomes, self.stand)
        answer = [len(possible)]
        for pair in possible:
            answer.extend(pair)
        return answer


def end_of_call(calls, at):
    """Where the call that begins at this place ends."""
    end = at + 1 + NUMBERS_BEHIND[calls[at]]
    if calls[at] == ARE:
        end += calls[at + 1]
    return end


def answer_to(island, number, told):
    """What the island answers to the call of this number; told is what stands behind it."""
    if number == BEGINS:
        return island.begins(told[0])
    if number == RULE:
        return island.rule(told[0], told[1], told[2], told[3])
    if number == OLD:
        return island.old()
    if number == ARE:
        return island.are(told[1:])
    if number == MEET:
        return island.meet(told[0], told[1])
    # Only may is left: no other number has a place in NUMBERS_BEHIND.
    return island.may()


def answers(calls):
    """For each call in order: how many numbers it answers, then these."""
    island = Island()
    given = []
    at = 0
    while at < len(calls):
        end = end_of_call(calls, at)
        answer = answer_to(island, calls[at], calls[at + 1:end])
        given.append(len(answer))
        given.extend(answer)
        at = end
    return given
