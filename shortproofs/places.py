"""Places: what is held while rows are worked out, one behind another."""

from shortproofs.texts import needed_rows


def has_bit(bits, bit):
    return (bits >> bit) & 1 == 1


def with_bit(bits, bit):
    return bits | (1 << bit)


def all_within(bits, others):
    return bits & others == bits


def bits_of(rows, chosen):
    """Those of the rows that are chosen, as bits."""
    bits = 0
    for bit, row in enumerate(rows):
        if row in chosen:
            bits = with_bit(bits, bit)
    return bits


def rows_detached_from(text, rows, item):
    """Those of the rows that are detached from the item."""
    return [row for row in rows if item in text.sources[row]]


class NeededRows:
    """The rows that the wished items need, in order.

    Some of them together are one whole number, so that the least peaks can be kept by it: it has bit p if the row
    rows[p] is one of them.
    """

    def __init__(self, text, wished):
        rows = needed_rows(text, wished)
        self.rows = rows
        self.wished = bits_of(rows, wished)
        self.sources = [bits_of(rows, text.sources[row]) for row in rows]
        self.users = [bits_of(rows, rows_detached_from(text, rows, row)) for row in rows]

    def can_be_next(self, bit, done):
        """Whether the bit's row isn't done, but all rows that it's detached from are."""
        return not has_bit(done, bit) and all_within(self.sources[bit], done)

    def next_bits(self, done):
        return [bit for bit in range(len(self.rows)) if self.can_be_next(bit, done)]

    def is_held(self, bit, done):
        """Whether the bit's row is held while one more row than those that are done is worked out."""
        if not has_bit(done, bit):
            return False
        return has_bit(self.wished, bit) or not all_within(self.users[bit], done)

    def places_taken(self, done):
        """How many places are taken while one more row is worked out, whichever it is."""
        held = [bit for bit in range(len(self.rows)) if self.is_held(bit, done)]
        return len(held) + 1


def peak_of(needed, order):
    """The order's peak; None if it isn't an order of all the needed rows."""
    if sorted(order) != needed.rows:
        return None
    done = 0
    peak = 0
    for row in order:
        bit = needed.rows.index(row)
        if not needed.can_be_next(bit, done):
            return None
        peak = max(peak, needed.places_taken(done))
        done = with_bit(done, bit)
    return peak


def least_peaks(needed):
    """For all rows that may be done, as bits: the least peak of what's to be worked out behind them."""
    every = bits_of(needed.rows, needed.rows)
    peaks = [0] * (every + 1)
    # One more row makes the number greater: walked downwards, what comes behind it is known.
    for done in range(every - 1, -1, -1):
        behind = [peaks[with_bit(done, bit)] for bit in needed.next_bits(done)]
        peaks[done] = max(needed.places_taken(done), min(behind))
    return peaks


def first_order(needed, peaks):
    """The first of the orders with the least peak; peaks are what least_peaks tells of the needed rows."""
    order = []
    done = 0
    while len(order) < len(needed.rows):
        fitting = [bit for bit in needed.next_bits(done) if peaks[with_bit(done, bit)] <= peaks[0]]
        order.append(needed.rows[fitting[0]])
        done = with_bit(done, fitting[0])
    return order
