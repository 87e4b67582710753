"""The refusals of Columnbook, each under SheetError."""


class SheetError(ValueError):
    pass


class NoCap(SheetError):
    pass


class NoField(SheetError):
    pass


class NoSheet(SheetError):
    pass
