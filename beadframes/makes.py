"""Makes of frames and standings on them: faults, spans, values, digits, forms, and the standings of a value."""

NUMBERS_A_ROD = 7
DECKS_A_ROD = 3
MOST_RODS = 64
LEAST_RATIO = 2
MOST_RATIO = 20
MOST_BEADS = 15
MOST_WORTH = 63
MOST_WORTH_TOGETHER = 255
# One bead more than any make has: so many stand for what can't be shown at all.
TOO_MANY_BEADS = 2881


def rods_of(make):
    """Give back the make's rods, rod 0 first, each a list of its seven numbers."""
    return [make[start:start + NUMBERS_A_ROD] for start in range(0, len(make), NUMBERS_A_ROD)]


def decks_of(rod):
    """Give back the rod's three decks, deck 0 first, each as beads and worth."""
    return [(rod[1], rod[2]), (rod[3], rod[4]), (rod[5], rod[6])]


def worth_together(rod):
    """Give back what all beads of the rod are worth."""
    total = 0
    for beads, worth in decks_of(rod):
        total = total + beads * worth
    return total


def has_whole_rods(make):
    """Tell whether the list has seven numbers a rod, of 1 to 64 rods."""
    if len(make) == 0 or len(make) > NUMBERS_A_ROD * MOST_RODS:
        return False
    return len(make) % NUMBERS_A_ROD == 0


def deck_is_sound(beads, worth):
    """Tell whether beads and worth are both 0, or both there and within their bounds."""
    if beads == 0 or worth == 0:
        return beads == worth
    return beads <= MOST_BEADS and worth <= MOST_WORTH


def decks_are_in_turn(rod):
    """Tell whether deck 0 has beads, and deck 1 too if deck 2 has any."""
    decks = decks_of(rod)
    if decks[0][0] == 0:
        return False
    return decks[1][0] > 0 or decks[2][0] == 0


def numbers_are_sound(rod):
    """Tell whether each number of the rod is one that a make may have there."""
    if rod[0] < LEAST_RATIO or rod[0] > MOST_RATIO:
        return False
    for beads, worth in decks_of(rod):
        if not deck_is_sound(beads, worth):
            return False
    return decks_are_in_turn(rod)


def pushable_counts(rod):
    """Give back a whole number whose bit n is set just if n can be pushed on the rod."""
    counts = 1
    for beads, worth in decks_of(rod):
        for bead in range(beads):
            # A bead is left or pushed: what was reached stays, and is reached that much higher.
            counts = counts | (counts << worth)
    return counts


def each_digit_can_be_pushed(rod):
    """Tell whether every number below the rod's ratio can be pushed on it."""
    digits_below_ratio = (1 << rod[0]) - 1
    return (pushable_counts(rod) & digits_below_ratio) == digits_below_ratio


def broken_rule(rod):
    """Give back the first of the rules 2, 3, 4 that the rod breaks, or 0."""
    # The later rules count beads, which only rule 2 keeps few.
    if not numbers_are_sound(rod):
        return 2
    if worth_together(rod) > MOST_WORTH_TOGETHER:
        return 3
    if not each_digit_can_be_pushed(rod):
        return 4
    return 0


def make_fault(make):
    """Give back rule and place of the make's fault, or an empty list if it has none."""
    if not has_whole_rods(make):
        return [1, 0]
    for place, rod in enumerate(rods_of(make)):
        rule = broken_rule(rod)
        if rule > 0:
            return [rule, place]
    return []


def product_of_ratios(make):
    """Give back the product of the ratios of all rods."""
    product = 1
    for rod in rods_of(make):
        product = product * rod[0]
    return product


def beads_of(make):
    """Give back how many beads each deck of the make has, three numbers a rod, rod 0 first."""
    numbers = []
    for rod in rods_of(make):
        for beads, worth in decks_of(rod):
            numbers.append(beads)
    return numbers


def standing_fault(make, standing):
    """Give back rule and place of the standing's fault on a sound make, or an empty list."""
    most = beads_of(make)
    if len(standing) != len(most):
        return [5, len(standing)]
    for place, pushed in enumerate(standing):
        if pushed > most[place]:
            return [5, place]
    return []


def pushes_of(standing):
    """Give back what is pushed on each rod, rod 0 first, a list of three numbers a rod."""
    return [standing[start:start + DECKS_A_ROD] for start in range(0, len(standing), DECKS_A_ROD)]


def count_of(rod, push):
    """Give back what the pushed beads of the rod are worth together."""
    count = 0
    for pushed, deck in zip(push, decks_of(rod)):
        count = count + pushed * deck[1]
    return count


def value_of(make, standing):
    """Give back the value of a sound standing: each rod's count times its place, together."""
    total = 0
    place = 1
    for rod, push in zip(rods_of(make), pushes_of(standing)):
        total = total + count_of(rod, push) * place
        place = place * rod[0]
    return total


def digits_of(value, make):
    """Give back the value's digits, rod 0's first; whole spans in it are left out."""
    digits = []
    left = value
    for rod in rods_of(make):
        digits.append(left % rod[0])
        left = left // rod[0]
    return digits


def most_pushed(deck, count):
    """Give back how many beads of the deck can be pushed at most without going above the count."""
    if deck[0] == 0:
        return 0
    return min(deck[0], count // deck[1])


def form_of(rod, digit):
    """Give back the digit's form on the rod: how many beads are pushed of each deck."""
    decks = decks_of(rod)
    form = []
    # The most of deck 0 is tried first, then of deck 1: of ways with as many beads the first one stays.
    for first in range(most_pushed(decks[0], digit), -1, -1):
        after_first = digit - first * decks[0][1]
        for second in range(most_pushed(decks[1], after_first), -1, -1):
            third = most_pushed(decks[2], after_first - second * decks[1][1])
            push = [first, second, third]
            if count_of(rod, push) == digit and (len(form) == 0 or sum(push) < sum(form)):
                form = push
    return form


def standing_in_form(value, make):
    """Give back the standing in form of a value below the make's span."""
    standing = []
    for rod, digit in zip(rods_of(make), digits_of(value, make)):
        standing.extend(form_of(rod, digit))
    return standing


def is_in_form(make, standing):
    """Tell whether each rod of a sound standing shows a digit, pushed in its form."""
    for rod, push in zip(rods_of(make), pushes_of(standing)):
        count = count_of(rod, push)
        if count >= rod[0] or push != form_of(rod, count):
            return False
    return True


def pushes_in_order(rod):
    """Give back all ways to push the rod's beads, in the standings' order, each three numbers."""
    pushes = []
    for first in range(rod[1] + 1):
        for second in range(rod[3] + 1):
            for third in range(rod[5] + 1):
                pushes.append([first, second, third])
    return pushes


def ways_with_deck(ways, deck):
    """Give back, from how many ways lead to each count without the deck, how many do with it."""
    if deck[0] == 0:
        return ways
    worth = deck[1]
    one_too_many = (deck[0] + 1) * worth
    reached = ways + [0] * (deck[0] * worth)
    for count in range(worth, len(reached)):
        reached[count] = reached[count] + reached[count - worth]
    # So far the deck had beads without end: what takes more of them than there are goes off again.
    for count in range(len(reached) - 1, one_too_many - 1, -1):
        reached[count] = reached[count] - reached[count - one_too_many]
    return reached


def fewest_with_deck(fewest, deck):
    """Give back, from how few beads lead to each count without the deck, how few do with it."""
    reached = fewest + [TOO_MANY_BEADS] * (deck[0] * deck[1])
    for bead in range(deck[0]):
        # From the highest count down, as what is drawn from must not have this bead yet.
        for count in range(len(reached) - 1, deck[1] - 1, -1):
            reached[count] = min(reached[count], reached[count - deck[1]] + 1)
    return reached


def carried_numbers(value, make, nothing, with_deck):
    """Give back one list for each rod, rod 0 first, and one behind them for what lies left of all rods.

    Each list is of the rods to the right alone, which are to show what the value has
    below that rod's place, and n units of that rod besides: at n, in how many ways they
    do, or with how few beads. That is `nothing` where there is no rod and n is 0, and
    `with_deck` tells what a deck makes of it.
    """
    carried = [[nothing]]
    for rod, digit in zip(rods_of(make), digits_of(value, make)):
        numbers = carried[-1]
        for deck in decks_of(rod):
            numbers = with_deck(numbers, deck)
        # A count leaves the value's digit on this rod just if the rest of it is whole units of the next.
        carried.append(numbers[digit::rod[0]])
    return carried


def number_at(numbers, place, otherwise):
    """Give back the number at that place of the list, or the other one where the list doesn't reach."""
    if place < 0 or place >= len(numbers):
        return otherwise
    return numbers[place]


def count_of_standings(value, make):
    """Give back how many standings have the value."""
    carried = carried_numbers(value, make, 1, ways_with_deck)
    return number_at(carried[-1], value // product_of_ratios(make), 0)


def numbered_standing(value, k, make):
    """Give back the value's k-th standing, from 0, in their order, or an empty list if there's none such."""
    carried = carried_numbers(value, make, 1, ways_with_deck)
    units = value // product_of_ratios(make)
    if k >= number_at(carried[-1], units, 0):
        return []
    left = k
    standing = []
    for rod, digit, ways in reversed(list(zip(rods_of(make), digits_of(value, make), carried))):
        count = digit + units * rod[0]
        for push in pushes_in_order(rod):
            units = count - count_of(rod, push)
            ways_here = number_at(ways, units, 0)
            if left < ways_here:
                break
            left = left - ways_here
        standing = push + standing
    return standing


def number_of_standing(make, standing):
    """Give back how many standings of the same value come before a sound standing in their order."""
    value = value_of(make, standing)
    carried = carried_numbers(value, make, 1, ways_with_deck)
    units = value // product_of_ratios(make)
    number = 0
    rows = list(zip(rods_of(make), digits_of(value, make), carried, pushes_of(standing)))
    for rod, digit, ways, pushed in reversed(rows):
        count = digit + units * rod[0]
        for push in pushes_in_order(rod):
            if push == pushed:
                break
            number = number + number_at(ways, count - count_of(rod, push), 0)
        units = count - count_of(rod, pushed)
    return number


def fewest_standing(value, make):
    """Give back of the value's standings with the fewest beads the first in order, or an empty list if it has none."""
    carried = carried_numbers(value, make, 0, fewest_with_deck)
    units = value // product_of_ratios(make)
    left = number_at(carried[-1], units, TOO_MANY_BEADS)
    if left == TOO_MANY_BEADS:
        return []
    standing = []
    for rod, digit, fewest in reversed(list(zip(rods_of(make), digits_of(value, make), carried))):
        count = digit + units * rod[0]
        for push in pushes_in_order(rod):
            units = count - count_of(rod, push)
            if sum(push) + number_at(fewest, units, TOO_MANY_BEADS) == left:
                break
        left = left - sum(push)
        standing = push + standing
    return standing
