"""The errors of the package.

None of them makes a message out of its fields: Python does not write out
numbers of many thousand digits, and making the error would fail.
"""


class TrainError(ValueError):
    """The base of all errors of the package."""

    def told(self):
        return "refused trainerror"


class BadCount(TrainError):
    """A number is out of its range; `what` says which number."""

    def __init__(self, what, count):
        self.what = what
        self.count = count

    def told(self):
        return "refused badcount"


class NoCrossing(TrainError):
    """The tree has no such crossing."""

    def __init__(self, crossing):
        self.crossing = crossing

    def told(self):
        return "refused nocrossing"


class RingRoad(TrainError):
    """The road with this number would close a ring."""

    def __init__(self, road):
        self.road = road

    def told(self):
        return "refused ringroad"


class NoRoad(TrainError):
    """The tree has no road with this number."""

    def __init__(self, road):
        self.road = road

    def told(self):
        return "refused noroad"


class OffRoad(TrainError):
    """The place lies beyond an end of the road with this number."""

    def __init__(self, road):
        self.road = road

    def told(self):
        return "refused offroad"


class NotWhole(TrainError):
    """The goal of the march with this number is not a whole place."""

    def __init__(self, march):
        self.march = march

    def told(self):
        return "refused notwhole"


class Wide(TrainError):
    """The result would be too large."""

    def __init__(self, count):
        self.count = count

    def told(self):
        return "refused wide"


class OtherTree(TrainError):
    """The two rows belong to different trees."""

    def told(self):
        return "refused othertree"


class NoName(TrainError):
    """This is not a valid name."""

    def __init__(self, name):
        self.name = name

    def told(self):
        return "refused noname"


class NoRow(TrainError):
    """No row has this name."""

    def __init__(self, name):
        self.name = name

    def told(self):
        return "refused norow"


class NoBack(TrainError):
    """There is no change to undo."""

    def told(self):
        return "refused noback"


class BadRow(TrainError):
    """The row of text with this number does not have its form."""

    def __init__(self, number):
        self.number = number

    def told(self):
        return "refused badrow"


class BadText(TrainError):
    """The part of the text at this place does not have its form."""

    def __init__(self, place):
        self.place = place

    def told(self):
        return "refused badtext"
