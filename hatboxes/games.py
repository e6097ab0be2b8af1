"""The calls of the document: each is a function that answers a list of whole numbers."""

# What stands in the place of a guess where a person passes.
PASSED = 2


def misses(n, q, length, g, table):
    """In how many rows of hats nobody guesses right, then the hats of the first such row."""
    refused = table_refusal(n, q, length, g, table)
    if refused < 0:
        return [refused]
    counts = right_in_each_row(n, q, g, table)
    missed = counts.count(0)
    if missed == 0:
        return [0]
    return [missed] + hats_of_row(counts.index(0), n, q)


def least(n, q, length, g, table):
    """How many guess right at least, whatever the hats."""
    refused = table_refusal(n, q, length, g, table)
    if refused < 0:
        return [refused]
    return [min(right_in_each_row(n, q, g, table))]


def line(n, q, hats):
    """0, then what is said by those who stand in a line, person 0 first."""
    if n < 0 or n > 4096 or q < 1 or q > 200:
        return [-2]
    if not all_below(q, hats):
        return [-3]
    return [0] + said_in_line(q, hats)


def passing(n, table):
    """How many rows of hats are won, where who doesn't want to guess may pass."""
    if n < 1 or n > 8:
        return [-2]
    if not all_below(PASSED + 1, table):
        return [-3]
    sights = [all_but(v, n) for v in range(n)]
    won = 0
    for row in range(power(2, n)):
        hats = hats_of_row(row, n, 2)
        if is_won(hats, guesses_in_row(hats, sights, 2, table)):
            won = won + 1
    return [won]


def code(r, hats):
    """0, then what each guesses who goes by the numbers of all others whose hat is 1."""
    if r < 1 or r > 8:
        return [-2]
    if not all_below(2, hats):
        return [-3]
    return [0] + guesses_by_numbers(hats)


def boxes(n, k, p):
    """1 if all find their numbers who look into k boxes at the most, else 0."""
    refused = order_refusal(n, k, p)
    if refused < 0:
        return [refused]
    if len(rounds_longer_than(k, p)) > 0:
        return [0]
    return [1]


def swap(n, k, p):
    """0 if all find their numbers, else 1 and the first two boxes whose exchange lets all do so."""
    refused = order_refusal(n, k, p)
    if refused < 0:
        return [refused]
    too_long = rounds_longer_than(k, p)
    if len(too_long) == 0:
        return [0]
    # An exchange cuts one round in two or joins two into one, so it can shorten one round alone.
    if len(too_long) > 1 or len(too_long[0]) > 2 * k:
        return [-5]
    return [1] + first_cut(k, too_long[0])


def table_refusal(n, q, length, g, table):
    """The refusal of misses and least, or 0 if there is none."""
    if n < 1 or n > 6 or q < 1 or q > 4 or length < 0 or length > 8192:
        return -2
    if not sight_is_as_told(n, g):
        return -3
    if length != length_of_all_parts(n, q, g) or not all_below(q, table):
        return -3
    return 0


def order_refusal(n, k, p):
    """The refusal of boxes and swap for what they are given, or 0 if there is none."""
    if n < 1 or n > 1024 or k < 0 or k > n:
        return -2
    if sorted(p) != list(range(n)):
        return -3
    return 0


def all_below(bound, numbers):
    """Whether each of the numbers is below the bound."""
    for number in numbers:
        if number >= bound:
            return False
    return True


def sees(g, v, u):
    """Whether person v sees person u."""
    return (g[v] >> u) & 1 == 1


def sight_is_as_told(n, g):
    """Whether nobody sees themselves or one that there isn't, and all who are seen see back."""
    for v in range(n):
        if (g[v] >> n) != 0 or sees(g, v, v):
            return False
        for u in range(n):
            if sees(g, v, u) and not sees(g, u, v):
                return False
    return True


def seen_by(v, n, g):
    """The persons whom v sees, from the lowest on."""
    return [u for u in range(n) if sees(g, v, u)]


def all_but(v, n):
    """The persons other than v, from the lowest on."""
    return [u for u in range(n) if u != v]


def power(base, exponent):
    """The base, multiplied by itself as often as the exponent says."""
    product = 1
    for step in range(exponent):
        product = product * base
    return product


def length_of_all_parts(n, q, g):
    """How many guesses the parts of all persons have together."""
    total = 0
    for v in range(n):
        total = total + power(q, len(seen_by(v, n, g)))
    return total


def hats_of_row(row, n, q):
    """The hats of the row with this number."""
    hats = []
    rest = row
    for place in range(n):
        hats.append(rest % q)
        rest = rest // q
    # Rows go by person 0's hat first, so person 0 has the highest digit.
    return list(reversed(hats))


def place_of_guess(hats, seen, q):
    """Where in a person's part the guess stands that counts for the hats they see."""
    place = 0
    # The lowest person is the lowest digit, so the highest person comes first here.
    for u in reversed(seen):
        place = place * q + hats[u]
    return place


def guesses_in_row(hats, sights, q, table):
    """What each guesses, where sights has the persons seen by each."""
    guesses = []
    start = 0
    for seen in sights:
        guesses.append(table[start + place_of_guess(hats, seen, q)])
        start = start + power(q, len(seen))
    return guesses


def right_guesses(hats, guesses):
    """How many guess their own hat."""
    return len([v for v, guess in enumerate(guesses) if guess == hats[v]])


def right_in_each_row(n, q, g, table):
    """How many guess right in each row of hats, the rows in their order."""
    sights = [seen_by(v, n, g) for v in range(n)]
    counts = []
    for row in range(power(q, n)):
        hats = hats_of_row(row, n, q)
        counts.append(right_guesses(hats, guesses_in_row(hats, sights, q, table)))
    return counts


def is_won(hats, guesses):
    """Whether one guesses right at least, and none wrong."""
    right = right_guesses(hats, guesses)
    return right > 0 and right + guesses.count(PASSED) == len(guesses)


def said_in_line(q, hats):
    """What each says who hears all that was said and sees all hats in front of them."""
    if len(hats) == 0:
        return []
    seen = sum(hats) - hats[0]
    first = seen % q
    said = [first]
    # What is left of the first number, less all that was said since; it may fall below 0.
    left = first
    for hat in hats[1:]:
        # Who stands one further on doesn't see their own hat, which the one behind them saw.
        seen = seen - hat
        number = (left - seen) % q
        said.append(number)
        left = left - number
    return said


def guesses_by_numbers(hats):
    """What each guesses, where person i's number is i + 1."""
    together = 0
    for person, hat in enumerate(hats):
        together = together ^ ((person + 1) * hat)
    guesses = []
    for person, hat in enumerate(hats):
        number = person + 1
        # What is taken a second time falls out, so the numbers of the others are left.
        guesses.append(guess_by_number(number, together ^ (number * hat)))
    return guesses


def guess_by_number(number, others):
    """What somebody with this number guesses, where others is what the others' numbers make."""
    if others == 0:
        return 1
    if others == number:
        return 0
    return PASSED


def round_from(first, p):
    """The boxes that are looked into one after another, from the first to the one with its number."""
    found = [first]
    while p[found[-1]] != first:
        found.append(p[found[-1]])
    return found


def rounds_of(p):
    """All rounds that lead from box to box, each from its lowest box on."""
    rounds = []
    reached = [False] * len(p)
    for first in range(len(p)):
        if not reached[first]:
            found = round_from(first, p)
            for box in found:
                reached[box] = True
            rounds.append(found)
    return rounds


def rounds_longer_than(k, p):
    """The rounds with more than k boxes: who looks for a number in one of them doesn't find it."""
    return [found for found in rounds_of(p) if len(found) > k]


def first_cut(k, found):
    """The first two boxes whose exchange cuts this round into two of k boxes at the most."""
    # The round's lowest box stands first in it, and any other may be exchanged with it. The one
    # that is d boxes further on cuts d boxes off; so d is k at the most, and what is left is too.
    return [found[0], min(found[len(found) - k:k + 1])]
