"""The refusals of the machine, all of them under MachineError."""


class MachineError(ValueError):
    pass


class NoRow(MachineError):
    pass


class NoPlace(MachineError):
    pass


class NoDrawer(MachineError):
    pass


class OneDrawer(MachineError):
    pass
