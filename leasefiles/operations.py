"""What a client may be asked to do, and what it notes and writes at one time."""

from leasefiles.basics import has_form, is_worded

OPERATION_FORMS = {
    "look": ("name",),
    "names": (),
    "asides": ("name",),
    "lease": ("name", "kind"),
    "give": ("name",),
    "write": ("name", "edit"),
    "hold": ("name", "edit"),
    "flush": (),
    "refresh": (),
}


def is_operation(thing):
    """Whether thing is an operation."""
    if not is_worded(thing):
        return False
    return thing[0] in OPERATION_FORMS and has_form(thing[1:], OPERATION_FORMS[thing[0]])


class Turn:
    """What a client notes and writes while it does one thing."""

    def __init__(self):
        self.noted = []
        self.written = []

    def told(self):
        """The pair of deeds and letters."""
        return tuple(self.noted), tuple(self.written)
