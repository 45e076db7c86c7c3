"""The calls: each answers a list of whole numbers, 0 first, or a refusal's number alone."""

ANSWERED = 0
REFUSED = -1
LAST_NUMBER = 120
LAST_POWER = 16
LAST_SUMMED = 1000000
LAST_THINGS = 70


def number(n):
    """0, then what's above and what's below in Bernoulli's number Bn; or -1."""
    if n < 0 or n > LAST_NUMBER:
        return [REFUSED]
    scale = factorial(n + 1)
    scaled = scaled_numbers(n, scale)
    return [ANSWERED] + lowest_terms(scaled[n], scale)


def sum_of(k, n):
    """0, then 1, 2 and so on up to n, each to the power k, added up; or -1."""
    if k < 0 or k > LAST_POWER or n < 0 or n > LAST_SUMMED:
        return [REFUSED]
    sums = power_sums(k, n)
    return [ANSWERED, sums[k]]


def zig(n):
    """0, then how many orders of n things are zigzags; or -1."""
    if n < 0 or n > LAST_THINGS:
        return [REFUSED]
    starts = downward_starts(n)
    return [ANSWERED, starts[n]]


def factorial(n):
    product = 1
    for factor in range(2, n + 1):
        product = product * factor
    return product


def scaled_numbers(n, scale):
    """B0 to Bn, each times scale, which is (n + 1)!.

    Each is whole, so the division loses nothing: Bm times (m + 1)! is, but for the sign, the sum over all k
    below m of Bk times m!, times the ways to choose k of m + 1 things; and Bk times (k + 1)!, which goes
    into Bk times m!, was whole before.
    """
    found = [scale]
    choices = [1, 1]
    for m in range(1, n + 1):
        choices = next_choices(choices)
        others = sum([choices[k] * found[k] for k in range(m)])
        found.append(-(others // choices[m]))
    return found


def next_choices(choices):
    """From the ways to choose 0, 1 and so on of some things, those for one thing more."""
    inner = [choices[k] + choices[k + 1] for k in range(len(choices) - 1)]
    return [1] + inner + [1]


def lowest_terms(above, below):
    divisor = common_divisor(abs(above), below)
    return [above // divisor, below // divisor]


def common_divisor(first, second):
    """The greatest; where first is 0 it is second, so that 0 is told as 0 by 1."""
    while second != 0:
        rest = first % second
        first = second
        second = rest
    return first


def power_sums(k, n):
    """The sums of 1 to n to the powers 0 to k, each from those before it: n may be too great to go through.

    For a power p, what (m + 1) to the power p + 1 is more than m to it is the sum over all j from 0 to p of
    m to the power j, times the ways to choose j of p + 1 things. Added up over m from 1 to n, the left side
    leaves (n + 1) to the power p + 1, less 1; the right side the sums for 0 to p, each times those ways. So
    the division by the ways for p loses nothing.
    """
    found = []
    choices = [1]
    raised = 1
    for p in range(k + 1):
        choices = next_choices(choices)
        raised = raised * (n + 1)
        others = sum([choices[j] * found[j] for j in range(p)])
        found.append((raised - 1 - others) // choices[p])
    return found


def downward_starts(n):
    """How many orders of 0 to n that go down first, then up, down and so on, begin with 0, with 1, .. with n.

    The last of these is how many zigzags n things have: n is the greatest, so whatever stands behind it is
    less, and what stands there is any order of 0 to n - 1 that goes up first.
    """
    starts = [1]
    for things in range(1, n + 1):
        starts = next_downward_starts(starts)
    return starts


def next_downward_starts(starts):
    """From those for some things, those for one thing more.

    Behind a beginning j stands one of 0 to j - 1, and from there the order goes up first. Turned upside down
    (the least for the greatest and so on) such an order of the others goes down first and is counted in
    starts, from its end on: so each beginning has one more of these than the beginning before it.
    """
    found = [0]
    for count in reversed(starts):
        found.append(found[-1] + count)
    return found
