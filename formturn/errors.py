"""The refusals: one class for each, all straight under FormError."""


class FormError(ValueError):
    pass


class NotAForm(FormError):
    pass


class NotATurning(FormError):
    pass


class NoBar(FormError):
    pass


class OtherBar(FormError):
    pass


class NotBare(FormError):
    pass


class OutOfBounds(FormError):
    pass


class NotWritten(FormError):
    pass
