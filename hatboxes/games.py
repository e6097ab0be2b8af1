"""The calls of the document: each is a function that answers a list of whole numbers."""


def misses(n, q, length, g, table):
    """In how many rows of hats nobody guesses right, then the hats of the first such row."""
    refused = table_refusal(n, q, length, g, table)
    if refused < 0:
        return [refused]
    counts = right_in_each_row(n, q, g, table)
    missed = counts.count(0)
    if missed == 0:
        return [0]
    return [missed] + hats_of_row(counts.index(0), n, q)


def least(n, q, length, g, table):
    """How many guess right at least, whatever the hats."""
    refused = table_refusal(n, q, length, g, table)
    if refused < 0:
        return [refused]
    return [min(right_in_each_row(n, q, g, table))]


def table_refusal(n, q, length, g, table):
    """The refusal of misses and least, or 0 if there is none."""
    if n < 1 or n > 6 or q < 1 or q > 4 or length < 0 or length > 8192:
        return -2
    if not sight_is_as_told(n, g):
        return -3
    if length != length_of_all_parts(n, q, g):
        return -3
    for guess in table:
        if guess >= q:
            return -3
    return 0


def sees(g, v, u):
    """Whether person v sees person u."""
    return (g[v] >> u) & 1 == 1


def sight_is_as_told(n, g):
    """Whether nobody sees themselves or one that there isn't, and all who are seen see back."""
    for v in range(n):
        if (g[v] >> n) != 0 or sees(g, v, v):
            return False
        for u in range(n):
            if sees(g, v, u) and not sees(g, u, v):
                return False
    return True


def seen_by(v, n, g):
    """The persons whom v sees, from the lowest on."""
    return [u for u in range(n) if sees(g, v, u)]


def power(base, exponent):
    """The base, multiplied by itself as often as the exponent says."""
    product = 1
    for step in range(exponent):
        product = product * base
    return product


def length_of_all_parts(n, q, g):
    """How many guesses the parts of all persons have together."""
    total = 0
    for v in range(n):
        total = total + power(q, len(seen_by(v, n, g)))
    return total


def hats_of_row(row, n, q):
    """The hats of the row with this number."""
    hats = []
    rest = row
    for place in range(n):
        hats.append(rest % q)
        rest = rest // q
    # Rows go by person 0's hat first, so person 0 has the highest digit.
    return list(reversed(hats))


def place_of_guess(hats, seen, q):
    """Where in a person's part the guess stands that counts for the hats they see."""
    place = 0
    # The lowest person is the lowest digit, so the highest person comes first here.
    for u in reversed(seen):
        place = place * q + hats[u]
    return place


def right_guesses(hats, sights, q, table):
    """How many guess right, where sights has the persons seen by each."""
    right = 0
    start = 0
    for v, seen in enumerate(sights):
        if table[start + place_of_guess(hats, seen, q)] == hats[v]:
            right = right + 1
        start = start + power(q, len(seen))
    return right


def right_in_each_row(n, q, g, table):
    """How many guess right in each row of hats, the rows in their order."""
    sights = [seen_by(v, n, g) for v in range(n)]
    return [right_guesses(hats_of_row(row, n, q), sights, q, table) for row in range(power(q, n))]
