"""One island of chameleons: the calls about it, and what they answer."""

BEGINS = 0
RULE = 1
OLD = 2
ARE = 3
MEET = 4
MAY = 5
TO = 6
ONE = 7
COMES = 8
RESTS = 9
ALWAYS = 10

# How many whole numbers stand behind each call's own number, by that number.
# A row's length is one of them; the row itself is not counted.
NUMBERS_BEHIND = (1, 4, 0, 1, 2, 0, 1, 1, 0, 0, 1, 1)

FEWEST_COLOURS = 2
MOST_COLOURS = 4
OLD_COLOURS = 3
MOST_TOGETHER = 7
LEAST_DIVISOR = 2
GREATEST_DIVISOR = 9

NO_SUCH = -1
NOT_THERE = -2
NO_CHANGE = -4
CANNOT_BE = -6


def in_order(a, b):
    """The two colours as a pair, the lower first."""
    if a <= b:
        return (a, b)
    return (b, a)


def pairs_of(colours):
    """Every two colours, in the order of meetings."""
    pairs = []
    for a in range(colours):
        for b in range(a, colours):
            pairs.append((a, b))
    return pairs


def unchanging_rule(colours):
    """The rule by which every two colours stay what they are."""
    becomes = {}
    for pair in pairs_of(colours):
        becomes[pair] = pair
    return becomes


def old_rule():
    """The rule of three colours by which two unlike ones both become the third."""
    becomes = unchanging_rule(OLD_COLOURS)
    for pair in pairs_of(OLD_COLOURS):
        if pair[0] != pair[1]:
            # The colours 0, 1 and 2 are 3 together, so the third is what is left of 3.
            third = 3 - pair[0] - pair[1]
            becomes[pair] = (third, third)
    return becomes


def are_there(stand, pair):
    """Whether the stand has a chameleon for each of the pair."""
    if pair[0] == pair[1]:
        return stand[pair[0]] >= 2
    return stand[pair[0]] >= 1 and stand[pair[1]] >= 1


def stand_behind(stand, pair, changed):
    """The stand that comes of this one once the pair has become the changed pair."""
    behind = list(stand)
    for colour in pair:
        behind[colour] -= 1
    for colour in changed:
        behind[colour] += 1
    return tuple(behind)


def possible_meetings(becomes, stand):
    """The pairs that can meet in the stand and are changed by it, in order."""
    possible = []
    for pair in pairs_of(len(stand)):
        if are_there(stand, pair) and becomes[pair] != pair:
            possible.append(pair)
    return possible


def told_meetings(meetings):
    """How many meetings these are, then a and b of each."""
    told = [len(meetings)]
    for pair in meetings:
        told.extend(pair)
    return told


def first_ways(becomes, stand):
    """Every stand that can come, with the first of the shortest ways to it.

    Stands are gone on from in the order in which they came, and by the meetings in their order:
    so they come by the length of their first ways, then by these ways themselves, and the way
    by which a stand comes for the first time is the first one to it.
    """
    ways = {stand: []}
    coming = [stand]
    at = 0
    while at < len(coming):
        now = coming[at]
        for pair in possible_meetings(becomes, now):
            behind = stand_behind(now, pair, becomes[pair])
            if behind not in ways:
                ways[behind] = ways[now] + [pair]
                coming.append(behind)
        at += 1
    return ways


def stands_ahead(becomes, stands):
    """For each of the stands those that become it by one meeting.

    The stands are all that can come from one of them, so that no meeting leads out of them.
    """
    ahead = {}
    for stand in stands:
        ahead[stand] = []
    for stand in stands:
        for pair in possible_meetings(becomes, stand):
            behind = stand_behind(stand, pair, becomes[pair])
            ahead[behind].append(stand)
    return ahead


def stands_leading_to(ahead, wanted):
    """The stands from which the wanted one can come, it too."""
    leading = [wanted]
    found = {wanted: True}
    at = 0
    while at < len(leading):
        now = leading[at]
        for stand in ahead[now]:
            if stand not in found:
                found[stand] = True
                leading.append(stand)
        at += 1
    return leading


def rows_of_weights(colours, m):
    """Every row of weights below m, one for each colour, in order."""
    rows = [()]
    for place in range(colours):
        longer = []
        for row in rows:
            for weight in range(m):
                longer.append(row + (weight,))
        rows = longer
    return rows


def are_kept(becomes, weights, m):
    """Whether every two colours weigh the same, modulo m, as what they become."""
    for pair, changed in becomes.items():
        before = weights[pair[0]] + weights[pair[1]]
        behind = weights[changed[0]] + weights[changed[1]]
        if before % m != behind % m:
            return False
    return True


class Island:
    """The colours, the rule for every two of them, and how it stands now.

    Each method of a call's name gives back the list of numbers that the call answers.
    """

    def __init__(self):
        self.colours = OLD_COLOURS
        self.becomes = old_rule()
        self.stand = (0,) * OLD_COLOURS

    def lacks_any(self, named):
        """Whether one of the named colours is not on this island."""
        for colour in named:
            if colour >= self.colours:
                return True
        return False

    def changing_rules(self):
        """How many pairs become something else."""
        changing = 0
        for pair, changed in self.becomes.items():
            if changed != pair:
                changing += 1
        return changing

    def fits(self, stand):
        """Whether the stand tells of these colours and of as many chameleons as there are."""
        return len(stand) == self.colours and sum(stand) == sum(self.stand)

    def way_to(self, stand):
        """The first of the shortest ways to the stand; None if it can't come."""
        return first_ways(self.becomes, self.stand).get(tuple(stand))

    def begins(self, k):
        if k < FEWEST_COLOURS or k > MOST_COLOURS:
            return [NO_SUCH]
        self.colours = k
        self.becomes = unchanging_rule(k)
        self.stand = (0,) * k
        return [0]

    def rule(self, a, b, c, d):
        if self.lacks_any((a, b, c, d)):
            return [NO_SUCH]
        self.becomes[in_order(a, b)] = in_order(c, d)
        return [self.changing_rules()]

    def old(self):
        if self.colours != OLD_COLOURS:
            return [CANNOT_BE]
        self.becomes = old_rule()
        return [self.changing_rules()]

    def are(self, stand):
        if len(stand) != self.colours or sum(stand) > MOST_TOGETHER:
            return [NO_SUCH]
        self.stand = tuple(stand)
        return [sum(stand)]

    def meet(self, a, b):
        if self.lacks_any((a, b)):
            return [NO_SUCH]
        pair = in_order(a, b)
        if not are_there(self.stand, pair):
            return [NOT_THERE]
        changed = self.becomes[pair]
        if changed == pair:
            return [NO_CHANGE]
        self.stand = stand_behind(self.stand, pair, changed)
        return list(self.stand)

    def may(self):
        return told_meetings(possible_meetings(self.becomes, self.stand))

    def to(self, stand):
        if not self.fits(stand):
            return [NO_SUCH]
        way = self.way_to(stand)
        if way is None:
            return [CANNOT_BE]
        return told_meetings(way)

    def one(self, colour):
        if self.lacks_any((colour,)):
            return [NO_SUCH]
        wanted = [0] * self.colours
        wanted[colour] = sum(self.stand)
        way = self.way_to(wanted)
        if way is None:
            return [CANNOT_BE]
        return [len(way)]

    def comes(self):
        return [len(first_ways(self.becomes, self.stand))]

    def rests(self):
        ways = first_ways(self.becomes, self.stand)
        resting = [stand for stand in ways if len(possible_meetings(self.becomes, stand)) == 0]
        answer = [len(resting)]
        if len(resting) > 0:
            answer.extend(min(resting))
        return answer

    def always(self, stand):
        if not self.fits(stand):
            return [NO_SUCH]
        ways = first_ways(self.becomes, self.stand)
        wanted = tuple(stand)
        if wanted not in ways:
            return [0]
        leading = stands_leading_to(stands_ahead(self.becomes, ways), wanted)
        if len(leading) == len(ways):
            return [1]
        return [0]

    def kept(self, m):
        if m < LEAST_DIVISOR or m > GREATEST_DIVISOR:
            return [NO_SUCH]
        rows = [row for row in rows_of_weights(self.colours, m) if are_kept(self.becomes, row, m)]
        unlike = [row for row in rows if min(row) != max(row)]
        answer = [len(rows)]
        if len(unlike) > 0:
            answer.extend(unlike[0])
        return answer


def end_of_call(calls, at):
    """Where the call that begins at this place ends."""
    end = at + 1 + NUMBERS_BEHIND[calls[at]]
    if calls[at] in (ARE, TO, ALWAYS):
        end += calls[at + 1]
    return end


def answer_to(island, number, told):
    """What the island answers to the call of this number; told is what stands behind it."""
    if number == BEGINS:
        return island.begins(told[0])
    if number == RULE:
        return island.rule(told[0], told[1], told[2], told[3])
    if number == OLD:
        return island.old()
    if number == ARE:
        return island.are(told[1:])
    if number == MEET:
        return island.meet(told[0], told[1])
    if number == MAY:
        return island.may()
    if number == TO:
        return island.to(told[1:])
    if number == ONE:
        return island.one(told[0])
    if number == COMES:
        return island.comes()
    if number == RESTS:
        return island.rests()
    if number == ALWAYS:
        return island.always(told[1:])
    # Only kept is left: no other number has a place in NUMBERS_BEHIND.
    return island.kept(told[0])


def answers(calls):
    """For each call in order: how many numbers it answers, then these."""
    island = Island()
    given = []
    at = 0
    while at < len(calls):
        end = end_of_call(calls, at)
        answer = answer_to(island, calls[at], calls[at + 1:end])
        given.append(len(answer))
        given.extend(answer)
        at = end
    return given
