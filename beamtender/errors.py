"""The refusals, one class for each, and the word by which each is told."""


class BeamError(ValueError):
    # The word is a value of each error, so that whoever takes any BeamError can tell it without asking for its class.
    def __init__(self, reason="", word="refused"):
        self.reason = reason
        self.word = word


class BadText(BeamError):
    def __init__(self, reason=""):
        BeamError.__init__(self, reason, "bad text")


class BadBeam(BeamError):
    def __init__(self, reason=""):
        BeamError.__init__(self, reason, "bad beam")


class BadStanding(BeamError):
    def __init__(self, reason=""):
        BeamError.__init__(self, reason, "bad standing")


class NoWeight(BeamError):
    def __init__(self, reason=""):
        BeamError.__init__(self, reason, "no weight")


class NoPlace(BeamError):
    def __init__(self, reason=""):
        BeamError.__init__(self, reason, "no place")


class SamePlace(BeamError):
    def __init__(self, reason=""):
        BeamError.__init__(self, reason, "same place")


class NoRoom(BeamError):
    def __init__(self, reason=""):
        BeamError.__init__(self, reason, "no room")


class TipsInHand(BeamError):
    def __init__(self, reason=""):
        BeamError.__init__(self, reason, "tips in hand")


class TipsBehind(BeamError):
    def __init__(self, reason=""):
        BeamError.__init__(self, reason, "tips behind")


class StartPast(BeamError):
    def __init__(self, reason=""):
        BeamError.__init__(self, reason, "start past")


class GoalPast(BeamError):
    def __init__(self, reason=""):
        BeamError.__init__(self, reason, "goal past")


class NoWay(BeamError):
    def __init__(self, reason=""):
        BeamError.__init__(self, reason, "no way")


class NothingBack(BeamError):
    def __init__(self, reason=""):
        BeamError.__init__(self, reason, "nothing back")


class PlayFull(BeamError):
    def __init__(self, reason=""):
        BeamError.__init__(self, reason, "play full")
