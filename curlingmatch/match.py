"""The calls on a match, and what they answer."""

from curlingmatch.ice import all_lie_clear, end_points, in_house, in_play, is_guard, side_of, touches_middle_line

BEGIN = 1
DELIVER = 2
TIME = 3
GIVE = 4
NOW = 5
STONES = 6
SCORES = 7
# Of each call but deliver, which has a list: how many whole numbers stand behind its own.
WHOLE_NUMBERS = {1: 3, 3: 2, 4: 1, 5: 0, 6: 0, 7: 0, 8: 0}

NOT_AS_TOLD = -1
NO_MATCH = -2
CANNOT_LIE_SO = -4

NOBODY = -1

MOST_ENDS = 12
MOST_SECONDS = 10000
FARTHEST = 10000
STONES_OF_AN_END = 16
GUARDED_DELIVERIES = 5
SECONDS_MORE = 270


class Match:
    """One match, from its beginning on. What it's given was looked at ahead."""

    def __init__(self, ends, hammer, seconds):
        self.ends = ends
        self.hammer = hammer
        self.seconds_left = [seconds, seconds]
        self.ended = []
        self.delivered = 0
        self.lying = []
        self.winner = NOBODY

    def is_over(self):
        return self.winner != NOBODY

    def points(self, side):
        return sum([end[side] for end in self.ended])

    def standing(self):
        """How it stands, as six numbers."""
        return [self.points(0), self.points(1), len(self.ended), self.hammer, self.delivered, self.winner]

    def now(self):
        """Whether it's over, how it stands, which side delivers next, and what time is left."""
        over = 1 if self.is_over() else 0
        return [over] + self.standing() + [side_of(self.delivered, self.hammer)] + self.seconds_left

    def stones(self):
        """How many stones lie in play, then six numbers of each."""
        told = [len(self.lying)]
        for stone in self.lying:
            told.extend([stone[0], side_of(stone[0], self.hammer), stone[1], stone[2]])
            told.extend([1 if in_house(stone) else 0, 1 if is_guard(stone) else 0])
        return told

    def scores(self):
        """How many ends are over, then both sides' points of each."""
        told = [len(self.ended)]
        for end in self.ended:
            told.extend(end)
        return told

    def shot(self):
        """What the end would count as the stones lie, then what each side would have of it."""
        points = end_points(self.lying, self.hammer)
        return [points[0] + points[1], points[0], points[1]]

    def can_lie(self, stones):
        """Whether the stones can lie so behind the delivery that comes now."""
        numbers = [stone[0] for stone in stones]
        if len(set(numbers)) < len(numbers):
            return False
        known = [stone[0] for stone in self.lying] + [self.delivered]
        for stone in stones:
            if stone[0] not in known or not in_play(stone):
                return False
        return all_lie_clear(stones)

    def breaks_rule_of_guards(self, stones):
        if self.delivered >= GUARDED_DELIVERIES:
            return False
        after = {}
        for stone in stones:
            after[stone[0]] = stone
        # Numbers of one side are all odd or all even, whoever has the hammer.
        others = [stone for stone in self.lying if stone[0] % 2 != self.delivered % 2]
        return any([is_guard_moved(stone, after.get(stone[0])) for stone in others])

    def deliver(self, stones):
        """Take a delivery, and answer whether it broke the rule of guards."""
        broken = self.breaks_rule_of_guards(stones)
        if not broken:
            self.lying = stones
        self.delivered += 1
        if self.delivered == STONES_OF_AN_END:
            self.close_end()
        return broken

    def close_end(self):
        counted = end_points(self.lying, self.hammer)
        self.ended.append(counted)
        self.lying = []
        self.delivered = 0
        if counted[0] > 0:
            self.hammer = 1
        elif counted[1] > 0:
            self.hammer = 0
        if len(self.ended) >= self.ends:
            self.settle()

    def settle(self):
        """Name the winner, or let another end follow with more time."""
        if self.points(0) == self.points(1):
            self.seconds_left = [left + SECONDS_MORE for left in self.seconds_left]
        elif self.points(0) > self.points(1):
            self.winner = 0
        else:
            self.winner = 1

    def take_time(self, side, seconds):
        """Take a side's seconds, and answer how many it has left."""
        left = max(0, self.seconds_left[side] - seconds)
        self.seconds_left[side] = left
        if left == 0:
            self.lose(side)
        return left

    def lose(self, side):
        self.winner = 1 - side


class Line:
    """A line's calls: they are about one match, and at the beginning there's none."""

    def __init__(self):
        self.current = None

    def goes_on(self):
        return self.current is not None and not self.current.is_over()

    def begin(self, ends, hammer, seconds):
        if not 1 <= ends <= MOST_ENDS or not is_side(hammer) or not 1 <= seconds <= MOST_SECONDS:
            return [NOT_AS_TOLD]
        self.current = Match(ends, hammer, seconds)
        return [0]

    def deliver(self, numbers):
        if not are_stones(numbers):
            return [NOT_AS_TOLD]
        if not self.goes_on():
            return [NO_MATCH]
        stones = stones_of(numbers)
        if not self.current.can_lie(stones):
            return [CANNOT_LIE_SO]
        broken = self.current.deliver(stones)
        return [1 if broken else 0] + self.current.standing()

    def time(self, side, seconds):
        if not is_side(side) or not 0 <= seconds <= MOST_SECONDS:
            return [NOT_AS_TOLD]
        if not self.goes_on():
            return [NO_MATCH]
        left = self.current.take_time(side, seconds)
        return [left] + self.current.standing()

    def give(self, side):
        if not is_side(side):
            return [NOT_AS_TOLD]
        if not self.goes_on():
            return [NO_MATCH]
        self.current.lose(side)
        return [0] + self.current.standing()

    def look(self, call):
        """Answer one of the calls that change nothing: now, stones, scores or shot."""
        if self.current is None:
            return [NO_MATCH]
        if call == NOW:
            return self.current.now()
        if call == STONES:
            return self.current.stones()
        if call == SCORES:
            return self.current.scores()
        return self.current.shot()


def is_guard_moved(before, after):
    """Whether a stone was a guard and was moved as the rule forbids; after is None if it's out."""
    if not is_guard(before):
        return False
    if after is None:
        return True
    return touches_middle_line(before) and not touches_middle_line(after)


def is_side(number):
    return number == 0 or number == 1


def stones_of(numbers):
    """The stones that a list tells, three numbers each."""
    return [(numbers[at], numbers[at + 1], numbers[at + 2]) for at in range(0, len(numbers), 3)]


def are_stones(numbers):
    """Whether a list tells stones, wherever they lie."""
    if len(numbers) % 3 != 0:
        return False
    for number, x, y in stones_of(numbers):
        if not 0 <= number < STONES_OF_AN_END or abs(x) > FARTHEST or abs(y) > FARTHEST:
            return False
    return True


def numbers_of_call(calls, at):
    """What stands behind a call's own number (of a list its count left out), and where the next call begins."""
    if calls[at] == DELIVER:
        first = at + 2
        behind = first + calls[at + 1]
    else:
        first = at + 1
        behind = first + WHOLE_NUMBERS[calls[at]]
    return calls[first:behind], behind


def answer_call(line, call, numbers):
    if call == BEGIN:
        return line.begin(numbers[0], numbers[1], numbers[2])
    if call == DELIVER:
        return line.deliver(numbers)
    if call == TIME:
        return line.time(numbers[0], numbers[1])
    if call == GIVE:
        return line.give(numbers[0])
    return line.look(call)


def answers(calls):
    """Answer a line of calls: of each how many numbers, then these."""
    line = Line()
    answered = []
    at = 0
    while at < len(calls):
        numbers, behind = numbers_of_call(calls, at)
        answer = answer_call(line, calls[at], numbers)
        answered.append(len(answer))
        answered.extend(answer)
        at = behind
    return answered
