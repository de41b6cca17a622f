"""All positions that a row moves to one place."""

from onetrain.doings import doing, is_gathered
from onetrain.places import distance, key


class Piece:
    """The positions of a road from `least / parts` to `greatest / parts` steps from its end `a`."""

    def __init__(self, road, least, greatest, parts):
        self.road = road
        self.least = least
        self.greatest = greatest
        self.parts = parts

    def __eq__(self, other):
        return (isinstance(other, Piece) and self.road == other.road and self.least == other.least
                and self.greatest == other.greatest and self.parts == other.parts)


def back(row, place):
    """Return all positions that a row moves to a place, as the longest pieces of each road."""
    goal = key(row.tree, place)
    found = []
    for stretch in doing(row):
        for piece in pieces_in(row.tree, stretch, goal):
            if found and is_one(found[-1], piece):
                found[-1] = Piece(piece.road, found[-1].least, piece.greatest, piece.parts)
            else:
                found.append(piece)
    return found


def pieces_in(tree, stretch, goal):
    """Return the piece of a stretch that is moved to a goal, in a list, or an empty list."""
    if is_gathered(stretch):
        return [Piece(stretch.road, stretch.least, stretch.greatest, 1)] if stretch.first == goal else []
    # The ends of the image are whole places, so their distances from the goal
    # have the goal's parts, in lowest terms.
    ahead = distance(tree, stretch.first, goal)[0]
    behind = distance(tree, goal, stretch.last)[0]
    if ahead + behind != (stretch.greatest - stretch.least) * goal.parts:
        return []
    at = stretch.least * goal.parts + ahead
    return [Piece(stretch.road, at, at, goal.parts)]


def is_one(piece, other):
    """Return whether a piece and the next one, which has as many parts, touch on one road."""
    return piece.road == other.road and piece.greatest == other.least
