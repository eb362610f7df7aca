"""Records of deeds, devices that lose their power, and books whose deeds can be recovered."""

from millrolls.books import Book, is_cut
from millrolls.errors import PowerCut, ShutError
from millrolls.mills import is_order

# What the body of a record begins with.
ORDER = 1
CUT = 2
UNDO = 3

# The last octet of a record.
END = 170


def record_of(deed):
    """Return the record of a deed, a list of octets."""
    body = body_of(deed)
    return [len(body)] + body + [sum(body) % 256, END]


def body_of(deed):
    """Return the list of octets that tells a deed."""
    if deed[0] == "order":
        return [ORDER] + list(deed[1])
    if deed[0] == "cut":
        _, (kind, counts), many = deed
        return [CUT, kind] + list(counts) + [many]
    return [UNDO]


def deed_of(mill, body):
    """Return the deed of a mill that a list of octets tells, or None."""
    if body == [UNDO]:
        return ("undo",)
    counts = tuple(body[1:])
    if body[:1] == [ORDER] and is_order(mill, counts):
        return ("order", counts)
    # Of another length it may have no kind at all.
    if body[:1] == [CUT] and len(body) == len(mill.widths) + 3:
        pattern = (body[1], tuple(body[2:-1]))
        if is_cut(mill, pattern, body[-1]):
            return ("cut", pattern, body[-1])
    return None


def recovered(mill, octets):
    """Return the tuple of the list of the deeds of the whole records, and how many octets these take."""
    deeds = []
    taken = 0
    deed = deed_at(mill, octets, taken)
    while deed is not None:
        deeds.append(deed)
        taken += len(record_of(deed))
        deed = deed_at(mill, octets, taken)
    return (deeds, taken)


def deed_at(mill, octets, place):
    """Return the deed of the record that begins at a place, None if there is no whole one."""
    if place >= len(octets):
        return None
    behind = place + 1 + octets[place]
    body = octets[place + 1:behind]
    # Where octets of the body are missing, those behind it are missing too.
    if octets[behind:behind + 2] != [sum(body) % 256, END]:
        return None
    return deed_of(mill, body)


def done(book, deed):
    """Do a deed in a book, and return what the book's method returns."""
    if deed[0] == "order":
        return book.order(deed[1])
    if deed[0] == "cut":
        return book.cut(deed[1], deed[2])
    return book.undo()


class Device:
    """Octets that stay, and the power to write so many more."""

    def __init__(self, octets, power):
        self.octets = list(octets)
        self.power = power

    def append(self, octet):
        """Write one octet more, or raise PowerCut."""
        if self.power < 1:
            raise PowerCut(len(self.octets))
        self.octets.append(octet)
        self.power -= 1


class JournaledBook:
    """A book whose deeds are written on a device, and whether its power went."""

    def __init__(self, book, device):
        self.book = book
        self.device = device
        self.shut = False

    def perform(self, deed):
        """Do a deed, write its record, and return what the book's method returns."""
        if self.shut:
            raise ShutError()
        told = done(self.book, deed)
        # Only undoing without a deed returns False, and then nothing was done.
        if told is not False:
            self.write(record_of(deed))
        return told

    def write(self, record):
        """Write a record, octet by octet."""
        try:
            for octet in record:
                self.device.append(octet)
        except PowerCut:
            self.shut = True
            raise


def opened(mill, octets, power):
    """Return the journaled book of the octets of a device, whose rest is cut off."""
    deeds, taken = recovered(mill, octets)
    book = Book(mill)
    for deed in deeds:
        done(book, deed)
    return JournaledBook(book, Device(octets[:taken], power))
