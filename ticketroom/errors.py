"""The refusals of the program, one class each."""


class RoomError(ValueError):
    pass


class NoHand(RoomError):
    pass


class WantsIn(RoomError):
    pass


class Within(RoomError):
    pass


class Out(RoomError):
    pass


class NoLine(RoomError):
    pass
