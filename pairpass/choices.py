"""Which choice of passes misses no known pair and looks at the fewest pairs.

Each pass comes as its number, then the pairs that it looks at; the numbers rise.
"""

from pairpass.passes import pairs_not_in, together


def choices_of(numbers):
    choices = [[]]
    for number in numbers:
        # The number goes behind what is chosen already, so that each choice rises as the numbers do.
        choices = choices + [choice + [number] for choice in choices]
    return choices


def cheapest_choice(pairs_by_pass, known):
    """How many pairs, how many passes, then these; None if all passes together miss a known pair."""
    best = None
    for choice in choices_of(list(pairs_by_pass)):
        pairs = together([pairs_by_pass[number] for number in choice])
        if not pairs_not_in(known, pairs):
            # Of two lists the lesser one is also the choice that counts: each number decides in its turn.
            found = [len(pairs), len(choice)] + choice
            if best is None or found < best:
                best = found
    return best
