"""Books: boards as rows of text."""

from alikeboard.board import Board
from alikeboard.facts import read_fact, shown_fact


def written(board):
    """Tell a row for each fact of a board."""
    return [shown_fact(fact) for fact in board.facts()]


def opened(rows):
    """Tell a board of the facts of rows; refuse with BadText, then as tell does."""
    # All rows are read first: a bad one is refused ahead of what telling refuses.
    facts = [read_fact(row) for row in rows]
    board = Board()
    for fact in facts:
        board.tell(fact)
    return board
