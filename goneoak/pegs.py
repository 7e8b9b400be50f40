"""The calls on one map of landmarks and texts, and what they answer."""

BEGIN = 0
TEXT = 1
TREASURE = 2
NEEDS = 3
TELLS = 4
SAME = 5

WRONG = -1
NO_TEXT = -2
NOT_THERE = -3
TOO_FINE = -4
TEXTS_FULL = -5
IS_GONE = -6
NO_MAP = -9

STAND = 0
TO_LANDMARK = 1
TO_PEG = 2
TURN = 3
GO_ON = 4
GO_HALF = 5
DRIVE = 6
HALFWAY = 7

# How many numbers a saying has, its sort among them, by its sort.
SAYING_LENGTHS = (2, 2, 2, 2, 2, 1, 1, 3)

MOST_LANDMARKS = 4
MOST_TEXTS = 4
MOST_SAYINGS = 14
MOST_HALVINGS = 8
MOST_TIMES = 3
FARTHEST = 1000

# A text halves at most 8 times, so whatever it leads to is whole when told in parts of 1/256.
PARTS = 256

NOTHING = (0, 0)


class UnknownCall(ValueError):
    """A call that isn't among those that the program answers."""


class Chart:
    """The map: a place of each landmark (empty, if it's gone) and the texts; without landmarks there's no map yet."""

    def __init__(self):
        self.places = []
        self.texts = []


class Follower:
    """One who follows a text, wherever the landmarks stand.

    Places and ways are kept as shares: for each landmark the pair of east and north, in parts, by which
    the place moves when that landmark is moved by a pace to the east. Each saying only adds, turns and
    halves, so the shares tell the place whole: it is the sum of each share times its landmark's place,
    both read as complex numbers.
    """

    def __init__(self, landmarks):
        self.landmarks = landmarks
        self.here = [NOTHING for landmark in range(landmarks)]
        self.way = [NOTHING for landmark in range(landmarks)]
        self.pegs = []

    def follow(self, saying):
        sort = saying[0]
        if sort == STAND:
            self.here = landmark_shares(saying[1], self.landmarks)
        elif sort == TO_LANDMARK:
            self.go_to(landmark_shares(saying[1], self.landmarks))
        elif sort == TO_PEG:
            self.go_to(self.pegs[saying[1]])
        elif sort == TURN:
            self.way = turned(self.way, saying[1])
        elif sort == GO_ON:
            self.here = added(self.here, self.way, saying[1])
        elif sort == GO_HALF:
            self.here = added(self.here, halved(self.way), 1)
        elif sort == DRIVE:
            self.pegs.append(self.here)
        else:
            self.go_to(halved(added(self.pegs[saying[1]], self.pegs[saying[2]], 1)))

    def go_to(self, there):
        self.way = added(there, self.here, -1)
        self.here = there


def landmark_shares(standing, landmarks):
    return [(PARTS, 0) if landmark == standing else NOTHING for landmark in range(landmarks)]


def added(shares, others, times):
    return [(share[0] + times * other[0], share[1] + times * other[1]) for share, other in zip(shares, others)]


def halved(shares):
    return [(share[0] // 2, share[1] // 2) for share in shares]


def turned(shares, turns):
    facing = shares
    for turn in range(turns):
        facing = [(-share[1], share[0]) for share in facing]
    return facing


def common_divisor(first, second):
    larger = first
    smaller = second
    while smaller != 0:
        rest = larger % smaller
        larger = smaller
        smaller = rest
    return larger


def in_lowest_terms(east, north, under):
    shared = common_divisor(common_divisor(under, abs(east)), abs(north))
    return [east // shared, north // shared, under // shared]


def is_place(numbers):
    return len(numbers) == 2 and all([-FARTHEST <= number <= FARTHEST for number in numbers])


def begin(chart, landmarks):
    if not 1 <= len(landmarks) <= MOST_LANDMARKS:
        return [WRONG]
    for landmark in landmarks:
        if len(landmark) != 0 and not is_place(landmark):
            return [WRONG]
    chart.places = landmarks
    chart.texts = []
    return [0]


def is_saying(saying):
    if len(saying) == 0 or saying[0] >= len(SAYING_LENGTHS):
        return False
    return len(saying) == SAYING_LENGTHS[saying[0]]


def is_text(sayings):
    if not 1 <= len(sayings) <= MOST_SAYINGS:
        return False
    for number, saying in enumerate(sayings):
        if not is_saying(saying) or (saying[0] == STAND) != (number == 0):
            return False
    return True


def can_follow(saying, landmarks, pegs):
    sort = saying[0]
    if sort == STAND or sort == TO_LANDMARK:
        return saying[1] < landmarks
    if sort == TURN or sort == GO_ON:
        return 1 <= saying[1] <= MOST_TIMES
    # What is left tells of pegs, or of nothing.
    return all([peg < pegs for peg in saying[1:]])


def count_followed(sayings, landmarks):
    """How many sayings can be followed, up to the first that can't."""
    pegs = 0
    for number, saying in enumerate(sayings):
        if not can_follow(saying, landmarks, pegs):
            return number
        if saying[0] == DRIVE:
            pegs = pegs + 1
    return len(sayings)


def count_halvings(sayings):
    return len([saying for saying in sayings if saying[0] == GO_HALF or saying[0] == HALFWAY])


def add_text(chart, sayings):
    if not is_text(sayings):
        return [WRONG]
    followed = count_followed(sayings, len(chart.places))
    if followed < len(sayings):
        return [NOT_THERE, followed]
    if count_halvings(sayings) > MOST_HALVINGS:
        return [TOO_FINE]
    if len(chart.texts) == MOST_TEXTS:
        return [TEXTS_FULL]
    chart.texts.append(sayings)
    return [len(chart.texts) - 1]


def has_text(chart, text):
    return text < len(chart.texts)


def treasure_shares(chart, text):
    follower = Follower(len(chart.places))
    for saying in chart.texts[text]:
        follower.follow(saying)
    return follower.here


def needed_landmarks(shares):
    return [landmark for landmark, share in enumerate(shares) if share != NOTHING]


def gone_landmarks(chart, landmarks):
    return [landmark for landmark in landmarks if len(chart.places[landmark]) == 0]


def treasure_place(chart, shares):
    """Where the treasure lies, if each landmark that's needed stands somewhere."""
    east = 0
    north = 0
    for landmark in needed_landmarks(shares):
        share = shares[landmark]
        place = chart.places[landmark]
        east = east + share[0] * place[0] - share[1] * place[1]
        north = north + share[0] * place[1] + share[1] * place[0]
    return in_lowest_terms(east, north, PARTS)


def treasure(chart, text):
    if not has_text(chart, text):
        return [NO_TEXT]
    shares = treasure_shares(chart, text)
    missing = gone_landmarks(chart, needed_landmarks(shares))
    if len(missing) > 0:
        return [IS_GONE, missing[0]]
    return [0] + treasure_place(chart, shares)


def needs(chart, text):
    if not has_text(chart, text):
        return [NO_TEXT]
    needed = needed_landmarks(treasure_shares(chart, text))
    return [len(needed)] + needed


def tells(chart, text, landmark):
    if not has_text(chart, text):
        return [NO_TEXT]
    if landmark >= len(chart.places):
        return [WRONG]
    share = treasure_shares(chart, text)[landmark]
    return [0] + in_lowest_terms(share[0], share[1], PARTS)


def same(chart, text, other):
    if not has_text(chart, text) or not has_text(chart, other):
        return [NO_TEXT]
    return [1 if treasure_shares(chart, text) == treasure_shares(chart, other) else 0]


def read_calls(calls):
    """The calls one behind another, each as its number, its whole numbers and its lists."""
    found = []
    at = 0
    while at < len(calls):
        number = calls[at]
        lists_at = at + 2 + calls[at + 1]
        numbers = calls[at + 2:lists_at]
        lists = []
        at = lists_at + 1
        while len(lists) < calls[lists_at]:
            behind = at + 1 + calls[at]
            lists.append(calls[at + 1:behind])
            at = behind
        found.append((number, numbers, lists))
    return found


def answer_call(chart, number, numbers, lists):
    if number == BEGIN:
        return begin(chart, lists)
    if len(chart.places) == 0:
        return [NO_MAP]
    if number == TEXT:
        return add_text(chart, lists)
    if number == TREASURE:
        return treasure(chart, numbers[0])
    if number == NEEDS:
        return needs(chart, numbers[0])
    if number == TELLS:
        return tells(chart, numbers[0], numbers[1])
    if number == SAME:
        return same(chart, numbers[0], numbers[1])
    raise UnknownCall(f"{number}")


def answers(calls):
    """What each call answers, in order, with how many numbers that has before it."""
    chart = Chart()
    told = []
    for call in read_calls(calls):
        answer = answer_call(chart, call[0], call[1], call[2])
        told.append(len(answer))
        told.extend(answer)
    return told
