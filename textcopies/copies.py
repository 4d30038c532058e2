"""Two copies of one text that are changed apart from one another and brought together.

Within this file a change's number is one whole number, count * 256 + site, and what
the change does is a tuple: its kind, its byte, and the number of the other change.
"""

MOST_KNOWN = 16384
GREATEST_COUNT = 4294967295
SITES = 256
CHANGE_SIZE = 16

# No change has the number 0, since a count is 1 or more.
NOTHING = 0

PUTS_IN = 1
TAKES_OUT = 2

# Where each part stands in what a change does.
KIND = 0
BYTE = 1
OTHER = 2

TOO_MUCH = -1
NOT_THERE = -1
OUT_OF_RANGE = -2
UNFIT = -3


class Copy:
    """What one copy knows, and the text that comes of it."""

    def __init__(self, site):
        self.site = site
        self.known = {}
        self.greatest = [0] * SITES
        # All bytes that were ever put in, in their order, as a ring: NOTHING stands ahead
        # of the first and behind the last, so that neither end is a case of its own.
        self.follower = {NOTHING: NOTHING}
        self.gone = {}
        self.shown = []


def number_of(count, site):
    # With the count ahead of the site, whole numbers compare as changes' numbers do.
    return count * SITES + site


def count_of(number):
    return number // SITES


def site_of(number):
    return number % SITES


def within(value, least, most):
    return least <= value and value <= most


def is_stretch(copy, start, k):
    """Whether the text has k places from start on."""
    return start >= 0 and k >= 0 and start + k <= len(copy.shown)


# Changes as sixteen bytes.


def four_bytes(value):
    return [value % 256, value // 256 % 256, value // 65536 % 256, value // 16777216]


def from_four_bytes(row, start):
    return row[start] + row[start + 1] * 256 + row[start + 2] * 65536 + row[start + 3] * 16777216


def sixteen_bytes(number, change):
    head = [site_of(number), change[KIND], change[BYTE], 0]
    other = four_bytes(count_of(change[OTHER])) + [site_of(change[OTHER])]
    return head + four_bytes(count_of(number)) + other + [0, 0, 0]


def has_form(row):
    """Whether sixteen bytes are laid out as a change's, whatever their numbers are."""
    if row[3] != 0 or row[13:] != [0, 0, 0]:
        return False
    return row[1] == PUTS_IN or (row[1] == TAKES_OUT and row[2] == 0)


def number_in(row):
    return number_of(from_four_bytes(row, 4), row[0])


def change_in(row):
    return (row[1], row[2], number_of(from_four_bytes(row, 8), row[12]))


# What a copy knows.


def stand_behind(follower, number, other):
    # A byte's number is greater than that of the byte it is put in behind. So the followers
    # with greater numbers are just the bytes that come first here: greater ones behind the
    # same byte, and all that hang on those.
    ahead = other
    while follower[ahead] > number:
        ahead = follower[ahead]
    follower[number] = follower[ahead]
    follower[ahead] = number


def keep(copy, number, change):
    """Know a new change; the text that's shown is left to the caller."""
    site = site_of(number)
    count = count_of(number)
    copy.known[number] = change
    if count > copy.greatest[site]:
        copy.greatest[site] = count
    if change[KIND] == PUTS_IN:
        stand_behind(copy.follower, number, change[OTHER])
    else:
        copy.gone[change[OTHER]] = True


def show(copy):
    """Draw the text anew from the order."""
    shown = []
    number = copy.follower[NOTHING]
    while number != NOTHING:
        if number not in copy.gone:
            shown.append(number)
        number = copy.follower[number]
    copy.shown = shown


def keep_all(copy, numbers, changes):
    """Know the changes with these new numbers, if they aren't too many; the answer to that."""
    if len(copy.known) + len(numbers) > MOST_KNOWN:
        return [TOO_MUCH]
    for number in numbers:
        keep(copy, number, changes[number])
    if len(numbers) > 0:
        show(copy)
    return [len(copy.shown)]


def has_no_room(copy, k):
    """Whether k more changes of the copy's own are too many, or their counts too great."""
    return len(copy.known) + k > MOST_KNOWN or max(copy.greatest) + k > GREATEST_COUNT


def own_numbers(copy, k):
    first = max(copy.greatest) + 1
    return [number_of(count, copy.site) for count in range(first, first + k)]


# The calls: each answers a list, the number first.


def open_copy(copies, which, site):
    if not within(site, 1, SITES - 1):
        return [OUT_OF_RANGE]
    copies[which] = Copy(site)
    return [0]


def put_bytes(copy, at, k, data):
    if not within(at, 0, len(copy.shown)) or not within(k, 0, MOST_KNOWN):
        return [OUT_OF_RANGE]
    if has_no_room(copy, k):
        return [TOO_MUCH]
    numbers = own_numbers(copy, k)
    behind = copy.shown[at - 1] if at > 0 else NOTHING
    for number, byte in zip(numbers, data):
        keep(copy, number, (PUTS_IN, byte, behind))
        behind = number
    copy.shown = copy.shown[:at] + numbers + copy.shown[at:]
    return [len(copy.shown)]


def take_bytes(copy, at, k):
    if not is_stretch(copy, at, k):
        return [OUT_OF_RANGE]
    if has_no_room(copy, k):
        return [TOO_MUCH]
    for number, other in zip(own_numbers(copy, k), copy.shown[at:at + k]):
        keep(copy, number, (TAKES_OUT, 0, other))
    copy.shown = copy.shown[:at] + copy.shown[at + k:]
    return [len(copy.shown)]


def tell_text(copy, start, k):
    if not is_stretch(copy, start, k):
        return [OUT_OF_RANGE]
    return [0] + [copy.known[number][BYTE] for number in copy.shown[start:start + k]]


def tell_number(copy, at):
    if not within(at, 0, len(copy.shown) - 1):
        return [OUT_OF_RANGE]
    return [0, count_of(copy.shown[at]), site_of(copy.shown[at])]


def tell_place(copy, count, site):
    # A site beyond 255 would run over into the count of another change's number.
    if site >= SITES:
        return [NOT_THERE]
    number = number_of(count, site)
    if number not in copy.shown:
        return [NOT_THERE]
    return [copy.shown.index(number)]


def tell_seen(copy):
    return [0] + copy.greatest


def tell_news(copy, room, seen):
    if not within(room, 0, MOST_KNOWN):
        return [OUT_OF_RANGE]
    numbers = [number for number in sorted(copy.known) if count_of(number) > seen[site_of(number)]]
    if len(numbers) > room:
        return [TOO_MUCH]
    answer = [len(numbers)]
    for number in numbers:
        answer.extend(sixteen_bytes(number, copy.known[number]))
    return answer


def may_be_new(known, greatest, number, change):
    """Whether a change with a number that isn't known may be learned next."""
    site = site_of(number)
    count = count_of(number)
    other = change[OTHER]
    if site == 0 or count <= greatest[site] or count <= count_of(other):
        return False
    if other == NOTHING:
        return change[KIND] == PUTS_IN
    return other in known and known[other][KIND] == PUTS_IN


def learn_changes(copy, n, data):
    if not within(n, 0, MOST_KNOWN):
        return [OUT_OF_RANGE]
    # All is tried on these first: a refusal at a later change leaves the copy as it was.
    known = dict(copy.known)
    greatest = list(copy.greatest)
    numbers = []
    for step in range(n):
        row = data[step * CHANGE_SIZE:(step + 1) * CHANGE_SIZE]
        if not has_form(row):
            return [UNFIT]
        number = number_in(row)
        change = change_in(row)
        if number in known:
            if known[number] != change:
                return [UNFIT]
        elif may_be_new(known, greatest, number, change):
            known[number] = change
            greatest[site_of(number)] = count_of(number)
            numbers.append(number)
        else:
            return [UNFIT]
    return keep_all(copy, numbers, known)


def join_copy(copy, other):
    numbers = []
    # From the least number on, each byte comes before those that hang on it.
    for number in sorted(other.known):
        if number not in copy.known:
            numbers.append(number)
        elif copy.known[number] != other.known[number]:
            return [UNFIT]
    return keep_all(copy, numbers, other.known)


# The line of calls.


def answer_call(copies, which, numbers, data):
    what = numbers[0]
    copy = copies[which]
    if what == 0:
        return open_copy(copies, which, numbers[1])
    if what == 1:
        return put_bytes(copy, numbers[1], numbers[2], data)
    if what == 2:
        return take_bytes(copy, numbers[1], numbers[2])
    if what == 3:
        return tell_text(copy, numbers[1], numbers[2])
    if what == 4:
        return [len(copy.shown)]
    if what == 5:
        return tell_number(copy, numbers[1])
    if what == 6:
        return tell_place(copy, numbers[1], numbers[2])
    if what == 7:
        return tell_seen(copy)
    if what == 8:
        return tell_news(copy, numbers[1], data)
    if what == 9:
        return learn_changes(copy, numbers[1], data)
    return join_copy(copy, copies[numbers[1]])


def counted_run(calls, start):
    """The numbers that stand behind how many they are."""
    return calls[start + 1:start + 1 + calls[start]]


def answers(calls):
    """The answers to a line of calls on two new copies, each behind how many numbers it has."""
    copies = [None, None]
    told = []
    start = 0
    while start < len(calls):
        which = calls[start]
        numbers = counted_run(calls, start + 1)
        start = start + 2 + len(numbers)
        # No call has more than one list.
        has_list = calls[start] == 1
        start = start + 1
        data = []
        if has_list:
            data = counted_run(calls, start)
            start = start + 1 + len(data)
        answer = answer_call(copies, which, numbers, data)
        told.append(len(answer))
        told.extend(answer)
    return told
