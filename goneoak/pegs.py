"""The calls on one map of landmarks and texts, and what they answer."""

from goneoak.sayings import NOTHING, PARTS, added, count_followed, is_text, is_too_fine, shares_of

BEGIN = 0
TEXT = 1
TREASURE = 2
NEEDS = 3
TELLS = 4
SAME = 5
LOST = 6
LINE = 7
APART = 8
MOVE = 9
GONE = 10
LOOK = 11

WRONG = -1
NO_TEXT = -2
NOT_THERE = -3
TOO_FINE = -4
TEXTS_FULL = -5
IS_GONE = -6
NOT_NEEDED = -7
NO_MAP = -9

MOST_LANDMARKS = 4
MOST_TEXTS = 4
FARTHEST = 1000

MIDDLE = (0, 0)


class UnknownCall(ValueError):
    """A call that isn't among those that the program answers."""


class Chart:
    """The map: a place of each landmark (empty, if it's gone) and the texts; without landmarks there's no map yet."""

    def __init__(self):
        self.places = []
        self.texts = []


def common_divisor(numbers):
    largest = 0
    for number in numbers:
        smaller = abs(number)
        while smaller != 0:
            rest = largest % smaller
            largest = smaller
            smaller = rest
    return largest


def in_lowest_terms(numbers):
    shared = common_divisor(numbers)
    return [number // shared for number in numbers]


def product(pair, other):
    """Of pairs of east and north, read as complex numbers."""
    return (pair[0] * other[0] - pair[1] * other[1], pair[0] * other[1] + pair[1] * other[0])


def is_place(numbers):
    return len(numbers) == 2 and all([-FARTHEST <= number <= FARTHEST for number in numbers])


def has_text(chart, text):
    return text < len(chart.texts)


def has_landmark(chart, landmark):
    return landmark < len(chart.places)


def places_with(chart, landmark, place):
    """The places as they are, but for one landmark's."""
    return [place if number == landmark else kept for number, kept in enumerate(chart.places)]


def treasure_shares(chart, text):
    return shares_of(chart.texts[text], len(chart.places))


def needed_landmarks(shares):
    return [landmark for landmark, share in enumerate(shares) if share != NOTHING]


def refusal_if_gone(places, shares):
    """The refusal, if a landmark is needed that's gone; empty otherwise."""
    for landmark in needed_landmarks(shares):
        if len(places[landmark]) == 0:
            return [IS_GONE, landmark]
    return []


def treasure_in_parts(places, shares):
    """Where the treasure lies, if each landmark that's needed stands somewhere."""
    east = 0
    north = 0
    for landmark in needed_landmarks(shares):
        told = product(shares[landmark], places[landmark])
        east = east + told[0]
        north = north + told[1]
    return (east, north)


def treasure_place(places, shares):
    parts = treasure_in_parts(places, shares)
    return in_lowest_terms([parts[0], parts[1], PARTS])


def begin(chart, landmarks):
    if not 1 <= len(landmarks) <= MOST_LANDMARKS:
        return [WRONG]
    for landmark in landmarks:
        if len(landmark) != 0 and not is_place(landmark):
            return [WRONG]
    chart.places = landmarks
    chart.texts = []
    return [0]


def add_text(chart, sayings):
    if not is_text(sayings):
        return [WRONG]
    followed = count_followed(sayings, len(chart.places))
    if followed < len(sayings):
        return [NOT_THERE, followed]
    if is_too_fine(sayings):
        return [TOO_FINE]
    if len(chart.texts) == MOST_TEXTS:
        return [TEXTS_FULL]
    chart.texts.append(sayings)
    return [len(chart.texts) - 1]


def treasure(chart, text):
    if not has_text(chart, text):
        return [NO_TEXT]
    shares = treasure_shares(chart, text)
    refusal = refusal_if_gone(chart.places, shares)
    if len(refusal) > 0:
        return refusal
    return [0] + treasure_place(chart.places, shares)


def needs(chart, text):
    if not has_text(chart, text):
        return [NO_TEXT]
    needed = needed_landmarks(treasure_shares(chart, text))
    return [len(needed)] + needed


def tells(chart, text, landmark):
    if not has_text(chart, text):
        return [NO_TEXT]
    if not has_landmark(chart, landmark):
        return [WRONG]
    share = treasure_shares(chart, text)[landmark]
    return [0] + in_lowest_terms([share[0], share[1], PARTS])


def same(chart, text, other):
    if not has_text(chart, text) or not has_text(chart, other):
        return [NO_TEXT]
    return [1 if treasure_shares(chart, text) == treasure_shares(chart, other) else 0]


def lost(chart, text, landmark, found):
    if not has_text(chart, text):
        return [NO_TEXT]
    if not has_landmark(chart, landmark) or not is_place(found):
        return [WRONG]
    shares = treasure_shares(chart, text)
    share = shares[landmark]
    if share == NOTHING:
        return [NOT_NEEDED]
    # In the middle the landmark adds nothing, so what's missing from there to the treasure is its part.
    places = places_with(chart, landmark, MIDDLE)
    refusal = refusal_if_gone(places, shares)
    if len(refusal) > 0:
        return refusal
    others = treasure_in_parts(places, shares)
    missing = (PARTS * found[0] - others[0], PARTS * found[1] - others[1])
    # Divided by the share as complex numbers are: times its mirror image, over the square of its length.
    stood = product(missing, (share[0], -share[1]))
    return [0] + in_lowest_terms([stood[0], stood[1], share[0] * share[0] + share[1] * share[1]])


def line(chart, text, landmark, first, second):
    if not has_text(chart, text):
        return [NO_TEXT]
    if not has_landmark(chart, landmark) or not is_place(first) or not is_place(second):
        return [WRONG]
    shares = treasure_shares(chart, text)
    refusal = refusal_if_gone(places_with(chart, landmark, first), shares)
    if len(refusal) > 0:
        return refusal
    answer = [0]
    for place in (first, second):
        answer.extend(treasure_place(places_with(chart, landmark, place), shares))
    return answer


def apart(chart, text, other):
    if not has_text(chart, text) or not has_text(chart, other):
        return [NO_TEXT]
    shares = treasure_shares(chart, text)
    others = treasure_shares(chart, other)
    for needed in (shares, others):
        refusal = refusal_if_gone(chart.places, needed)
        if len(refusal) > 0:
            return refusal
    between = treasure_in_parts(chart.places, added(shares, others, -1))
    return in_lowest_terms([between[0] * between[0] + between[1] * between[1], PARTS * PARTS])


def move(chart, landmark, place):
    if not has_landmark(chart, landmark) or not is_place(place):
        return [WRONG]
    chart.places = places_with(chart, landmark, place)
    return [0]


def make_gone(chart, landmark):
    if not has_landmark(chart, landmark):
        return [WRONG]
    chart.places = places_with(chart, landmark, [])
    return [0]


def look(chart):
    answer = [len(chart.places)]
    for place in chart.places:
        answer.append(0 if len(place) == 0 else 1)
        answer.extend(place)
    answer.append(len(chart.texts))
    answer.extend([len(sayings) for sayings in chart.texts])
    return answer


def read_calls(calls):
    """The calls one behind another, each as its number, its whole numbers and its lists."""
    found = []
    at = 0
    while at < len(calls):
        number = calls[at]
        lists_at = at + 2 + calls[at + 1]
        numbers = calls[at + 2:lists_at]
        lists = []
        at = lists_at + 1
        while len(lists) < calls[lists_at]:
            behind = at + 1 + calls[at]
            lists.append(calls[at + 1:behind])
            at = behind
        found.append((number, numbers, lists))
    return found


def answer_call(chart, number, numbers, lists):
    if number == BEGIN:
        return begin(chart, lists)
    if len(chart.places) == 0:
        return [NO_MAP]
    if number == TEXT:
        return add_text(chart, lists)
    if number == TREASURE:
        return treasure(chart, numbers[0])
    if number == NEEDS:
        return needs(chart, numbers[0])
    if number == TELLS:
        return tells(chart, numbers[0], numbers[1])
    if number == SAME:
        return same(chart, numbers[0], numbers[1])
    if number == LOST:
        return lost(chart, numbers[0], numbers[1], numbers[2:4])
    if number == LINE:
        return line(chart, numbers[0], numbers[1], numbers[2:4], numbers[4:6])
    if number == APART:
        return apart(chart, numbers[0], numbers[1])
    if number == MOVE:
        return move(chart, numbers[0], numbers[1:3])
    if number == GONE:
        return make_gone(chart, numbers[0])
    if number == LOOK:
        return look(chart)
    raise UnknownCall(f"{number}")


def answers(calls):
    """What each call answers, in order, with how many numbers that has before it."""
    chart = Chart()
    told = []
    for call in read_calls(calls):
        answer = answer_call(chart, call[0], call[1], call[2])
        told.append(len(answer))
        told.extend(answer)
    return told
