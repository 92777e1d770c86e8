"""What the tests share: calls written by name, and the document's words worked out block by block."""

from functools import lru_cache

from icehouse.melt import answers


def begin(heap):
    return [0, len(heap)] + list(heap)


def bring(column, n):
    return [1, column, n]


def straw(column, b):
    return [2, column, b]


def take(column):
    return [3, column]


def faces():
    return [4]


def best():
    return [5]


def order():
    return [6]


def water(row):
    return [7, len(row)] + list(row)


def lay(n):
    return [8, n]


def stack(n):
    return [9, n]


def follow(n):
    return [10, n]


def look():
    return [11]


def joined(calls):
    """One list of calls, as it is handed in."""
    line = []
    for call in calls:
        line += call
    return line


def split(told):
    """What was given back, as one list of numbers a call."""
    parts = []
    at = 0
    while at < len(told):
        count = told[at]
        part = told[at + 1:at + 1 + count]
        if count < 1 or len(part) != count:
            raise ValueError(f"no whole answer at {at} of {told}")
        parts.append(part)
        at += 1 + count
    return parts


def told(*calls):
    """What the calls are answered, one list each."""
    return split(answers(joined(calls)))


def straws(columns):
    """Every way to lay straw on so many columns."""
    if columns == 0:
        return [()]
    return [laid + (b,) for laid in straws(columns - 1) for b in (0, 1)]


def heaps(columns, most=3):
    """Every heap of so many columns."""
    if columns == 0:
        return [()]
    return [heap + (n,) for heap in heaps(columns - 1, most) for n in range(most + 1)]


def begun(heap, laid):
    """The calls that make this house, with straw where laid has a 1."""
    return [begin(heap)] + [straw(column, 1) for column, b in enumerate(laid) if b]


def naive_faces(heap, laid):
    blocks = {(column, row) for column, height in enumerate(heap) for row in range(height)}
    count = 0
    for column, row in blocks:
        count += 1
        if (column, row + 1) not in blocks and not laid[column]:
            count += 1
        if (column - 1, row) not in blocks:
            count += 1
        if (column + 1, row) not in blocks:
            count += 1
    return count


def naive_orders(heap, laid):
    """The water and the columns of each order of the heap: all orders, one by one."""
    if not any(heap):
        return [(0, [])]
    orders = []
    for column in range(len(heap)):
        if heap[column]:
            rest = list(heap)
            rest[column] -= 1
            day = naive_faces(rest, laid)
            orders += [(day + water, [column] + row) for water, row in naive_orders(rest, laid)]
    return orders


def naive_best(heap, laid):
    waters = [water for water, row in naive_orders(heap, laid)]
    return [min(waters), waters.count(min(waters))]


def naive_order(heap, laid):
    row = min(naive_orders(heap, laid))[1]
    return [len(row)] + row


def naive_water(heap, laid, row):
    """None if some day there is no block."""
    rest = list(heap)
    water = 0
    for column in row:
        if not rest[column]:
            return None
        rest[column] -= 1
        water += naive_faces(rest, laid)
    return water


def naive_lay(heap, n, best_of=naive_best):
    """All ways to lay straw on so many columns or fewer, one by one."""
    ways = [laid for laid in straws(len(heap)) if sum(laid) <= n]
    return highest_of_least([(best_of(heap, laid)[0], laid) for laid in ways])


def naive_stack(laid, n, best_of=naive_best):
    """All heaps of so many blocks, one by one."""
    stacked = [heap for heap in heaps(len(laid)) if sum(heap) == n]
    return highest_of_least([(best_of(heap, laid)[0], heap) for heap in stacked])


def highest_of_least(found):
    least = min(water for water, row in found)
    return [least] + list(max(row for water, row in found if water == least))


def counted_best(heap, laid):
    """As naive_best, for heaps with too many orders: how many orders there are of each water."""

    @lru_cache(maxsize=None)
    def spread(rest):
        if not any(rest):
            return {0: 1}
        found = {}
        for column in range(len(rest)):
            if rest[column]:
                after = rest[:column] + (rest[column] - 1,) + rest[column + 1:]
                day = naive_faces(after, laid)
                for water, count in spread(after).items():
                    found[day + water] = found.get(day + water, 0) + count
        return found

    found = spread(tuple(heap))
    return [min(found), found[min(found)]]
