"""A journal: the deeds of a ledger as records of octets on a device, and what is recovered from them."""

from larderdays.batches import Ledger
from larderdays.errors import NoSuchBatch, PowerCut, Short, ShutError
from larderdays.shops import is_choice

BUY = 1
ISSUE = 2
NIGHT = 3
RECALL = 4
END = 170


def body_of(deed):
    """Return the octets of the body of a deed's record."""
    if deed[0] == "buy":
        return [BUY, *deed[1]]
    if deed[0] == "issue":
        return [ISSUE, *deed[1]]
    if deed[0] == "night":
        return [NIGHT]
    return [RECALL, deed[1] // 256, deed[1] % 256]


def record_of(deed):
    """Return the record of a deed, a list of octets."""
    body = body_of(deed)
    return [len(body), *body, sum(body) % 256, END]


def deed_of(shop, body):
    """Return the deed that a body tells for a shop, or None."""
    head = body[:1]
    rest = tuple(body[1:])
    if head == [BUY] and is_choice(shop, rest):
        return ("buy", rest)
    if head == [ISSUE] and len(rest) == len(shop.keep):
        return ("issue", rest)
    if head == [NIGHT] and len(rest) == 0:
        return ("night",)
    if head == [RECALL] and len(rest) == 2:
        return ("recall", rest[0] * 256 + rest[1])
    return None


def record_at(shop, octets, first):
    """Return a tuple: the deed of the whole record that begins at a place, and the place behind it; or None."""
    if first == len(octets):
        return None
    end = first + octets[first] + 3
    if end > len(octets):
        return None
    body = octets[first + 1:end - 2]
    deed = deed_of(shop, body)
    if deed is None or octets[end - 2:end] != [sum(body) % 256, END]:
        return None
    return (deed, end)


def recovered(shop, octets):
    """Return a tuple: the list of the deeds of the whole records, and how many octets these take."""
    deeds = []
    length = 0
    found = record_at(shop, octets, 0)
    while found is not None:
        deed, length = found
        deeds.append(deed)
        found = record_at(shop, octets, length)
    return deeds, length


def done(ledger, deed):
    """Do a deed in a ledger; return what its method returns, raise what it raises."""
    if deed[0] == "buy":
        return ledger.buy(deed[1])
    if deed[0] == "issue":
        return ledger.issue(deed[1])
    if deed[0] == "night":
        return ledger.night()
    return ledger.recall(deed[1])


class Device:
    """A device that appends octets until its power is gone."""

    def __init__(self, octets, power):
        self.octets = list(octets)
        self.power = power

    def append(self, octet):
        """Write an octet; raise PowerCut if the power is gone."""
        if self.power <= 0:
            raise PowerCut(len(self.octets))
        self.octets.append(octet)
        self.power -= 1


class JournaledLedger:
    """A ledger of which each deed is written to a device when it is done."""

    def __init__(self, ledger, device):
        self.ledger = ledger
        self.device = device
        self.shut = False

    def perform(self, deed):
        """Do a deed and write its record; return what the ledger's method returns.

        Raise what that raises, PowerCut if the power goes while the record is written, and ShutError ever after.
        """
        if self.shut:
            raise ShutError()
        told = done(self.ledger, deed)
        try:
            for octet in record_of(deed):
                self.device.append(octet)
        except PowerCut:
            self.shut = True
            raise
        return told


def opened(shop, octets, power):
    """Return the journaled ledger of the octets of a device, whose rest is cut off."""
    deeds, length = recovered(shop, octets)
    ledger = Ledger(shop)
    for deed in deeds:
        do_again(ledger, deed)
    return JournaledLedger(ledger, Device(octets[:length], power))


def do_again(ledger, deed):
    """Do a deed in a ledger if it can be done."""
    try:
        done(ledger, deed)
    except (Short, NoSuchBatch):
        # No journaled ledger writes such a deed. Where somebody else did, it changes nothing, as an error does.
        pass
