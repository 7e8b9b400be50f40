"""Texts: which sayings make one, and how much each landmark tells of where it leads."""

STAND = 0
TO_LANDMARK = 1
TO_PEG = 2
TURN = 3
GO_ON = 4
GO_HALF = 5
DRIVE = 6
HALFWAY = 7

# How many numbers a saying has, its sort among them, by its sort.
SAYING_LENGTHS = (2, 2, 2, 2, 2, 1, 1, 3)

MOST_SAYINGS = 14
MOST_TIMES = 3

# A text halves at most 8 times, so whatever it leads to is whole when told in parts of 1/256.
MOST_HALVINGS = 8
PARTS = 256

NOTHING = (0, 0)


def is_saying(saying):
    if len(saying) == 0 or saying[0] >= len(SAYING_LENGTHS):
        return False
    return len(saying) == SAYING_LENGTHS[saying[0]]


def is_text(sayings):
    if not 1 <= len(sayings) <= MOST_SAYINGS:
        return False
    for number, saying in enumerate(sayings):
        if not is_saying(saying) or (saying[0] == STAND) != (number == 0):
            return False
    return True


def can_follow(saying, landmarks, pegs):
    sort = saying[0]
    if sort == STAND or sort == TO_LANDMARK:
        return saying[1] < landmarks
    if sort == TURN or sort == GO_ON:
        return 1 <= saying[1] <= MOST_TIMES
    # What is left tells of pegs, or of nothing.
    return all([peg < pegs for peg in saying[1:]])


def count_followed(sayings, landmarks):
    """How many sayings can be followed, up to the first that can't."""
    pegs = 0
    for number, saying in enumerate(sayings):
        if not can_follow(saying, landmarks, pegs):
            return number
        if saying[0] == DRIVE:
            pegs = pegs + 1
    return len(sayings)


def is_too_fine(sayings):
    return len([saying for saying in sayings if saying[0] == GO_HALF or saying[0] == HALFWAY]) > MOST_HALVINGS


class Follower:
    """One who follows a text, wherever the landmarks stand.

    Places and ways are kept as shares: for each landmark the pair of east and north, in parts, by which
    the place moves when that landmark is moved by a pace to the east. Each saying only adds, turns and
    halves, so the shares tell the place whole: it is the sum of each share times its landmark's place,
    both read as complex numbers.
    """

    def __init__(self, landmarks):
        self.landmarks = landmarks
        self.here = [NOTHING for landmark in range(landmarks)]
        self.way = [NOTHING for landmark in range(landmarks)]
        self.pegs = []

    def follow(self, saying):
        sort = saying[0]
        if sort == STAND:
            self.here = landmark_shares(saying[1], self.landmarks)
        elif sort == TO_LANDMARK:
            self.go_to(landmark_shares(saying[1], self.landmarks))
        elif sort == TO_PEG:
            self.go_to(self.pegs[saying[1]])
        elif sort == TURN:
            self.way = turned(self.way, saying[1])
        elif sort == GO_ON:
            self.here = added(self.here, self.way, saying[1])
        elif sort == GO_HALF:
            self.here = added(self.here, halved(self.way), 1)
        elif sort == DRIVE:
            self.pegs.append(self.here)
        else:
            self.go_to(halved(added(self.pegs[saying[1]], self.pegs[saying[2]], 1)))

    def go_to(self, there):
        self.way = added(there, self.here, -1)
        self.here = there


def landmark_shares(standing, landmarks):
    return [(PARTS, 0) if landmark == standing else NOTHING for landmark in range(landmarks)]


def added(shares, others, times):
    return [(share[0] + times * other[0], share[1] + times * other[1]) for share, other in zip(shares, others)]


def halved(shares):
    return [(share[0] // 2, share[1] // 2) for share in shares]


def turned(shares, turns):
    facing = shares
    for turn in range(turns):
        facing = [(-share[1], share[0]) for share in facing]
    return facing


def shares_of(sayings, landmarks):
    """How much each landmark tells of the treasure, in parts."""
    follower = Follower(landmarks)
    for saying in sayings:
        follower.follow(saying)
    return follower.here
