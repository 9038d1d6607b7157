"""How many rings a book has."""

from math import factorial

from fullring.books import begin_of, end_of, joints_of, lack


def step_table(book):
    """Tell the table of a book's steps between its joints, the last joint left out."""
    known = joints_of(book)
    number = {joint: at for at, joint in enumerate(known)}
    table = [[0] * len(known) for _ in known]
    for word in book:
        here = number[begin_of(word)]
        table[here][here] += 1
        table[here][number[end_of(word)]] -= 1
    return [row[:-1] for row in table[:-1]]


def determinant(table):
    """Tell the determinant of a table none of whose upper left corners has one of 0."""
    # To divide by the number ahead never leaves a rest here, and keeps the others small.
    divisor = 1
    while table:
        first = table[0]
        corner = first[0]
        table = [
            [(corner * row[at] - row[0] * first[at]) // divisor for at in range(1, len(row))]
            for row in table[1:]
        ]
        divisor = corner
    return divisor


def many_trees(book):
    """Tell in how many ways each joint but the last can have one word, all leading to the last."""
    # No corner of the table has a determinant of 0: from each joint one comes to the last.
    return determinant(step_table(book))


def many_rings(signs, size, book):
    """Tell how many rings a book has, a ring and its turns counted as one."""
    if lack(signs, size, book) is not None:
        return 0
    # The BEST theorem: the words by which a ring leaves the joints for the last time make
    # a tree, and those by which it leaves them before may stand in any order.
    many = many_trees(book)
    begins = [begin_of(word) for word in book]
    for joint in joints_of(book):
        many = many * factorial(begins.count(joint) - 1)
    return many
