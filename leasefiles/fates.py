"""What became of writes and files, told by the deeds that machines noted."""

DONE_BY = {
    "apply": "applied",
    "take": "applied",
    "adopt": "applied",
    "drop": "dropped",
    "aside": "aside",
    "unfit": "unfit",
}
# What becomes of the aside that a deed names last.
GONE_BY = {"adopt": "adopted", "drop": "struck"}


def server_deeds(deeds):
    """The deeds of the server that end a write, of all triples (index, machine, deed)."""
    return [deed for _, machine, deed in deeds if machine == 0 and deed[0] in DONE_BY]


def fates_of(sheets, deeds):
    """The dict from (client, number) of all writes of sheets, by clients from 1 on, to what became of them."""
    fates = {}
    for client, sheet in enumerate(sheets, start=1):
        for number in range(1, sheet[1] + 1):
            fates[(client, number)] = "pending"
    for deed in server_deeds(deeds):
        fates[deed[1:3]] = DONE_BY[deed[0]]
        if deed[0] in GONE_BY:
            fates[deed[-2:]] = GONE_BY[deed[0]]
    return fates


def files_by(deed):
    """The files (name, stamp, text or None) that a deed of the server makes, in order."""
    if deed[0] == "take":
        return [deed[3:6], deed[6:8] + (None,)]
    if deed[0] == "apply" or deed[0] == "adopt":
        return [deed[3:6]]
    return []


def lives_of(deeds):
    """The dict from each name to what its file was at the server, one behind another."""
    lives = {}
    for deed in server_deeds(deeds):
        for name, stamp, text in files_by(deed):
            lives.setdefault(name, []).append((stamp, text))
    return lives
