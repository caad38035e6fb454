"""A journal of deeds, written octet by octet, from which a book can be recovered."""

from messageways.edits import Book
from messageways.errors import EndError, NoSuchKey, PowerCut, ShutError, TokenError
from messageways.messages import plain
from messageways.notation import LETTERS, MOST_LETTERS, format_message, parse_message

# The signs of notations: all from the space to the tilde but the one of code 37, and the line feed.
SIGNS = (
    " !\"#$&'()*+,-./0123456789:;<=>?@ABCDEFGHIJKLMNOPQRSTUVWXYZ[\\]^_`"
    "abcdefghijklmnopqrstuvwxyz{|}~\n"
)
PUT = 1
DROP = 2
UNDO = 3
END = 170
# An octet has one of so many values.
OCTETS = 256


def codes_of(text):
    """Return the codes of the signs of a text."""
    return [ord(sign) for sign in text]


def body_of(deed):
    """Return the body of the record of a deed."""
    if deed[0] == "put":
        return [PUT, len(deed[1])] + codes_of(deed[1]) + codes_of(format_message(plain(deed[2])))
    if deed[0] == "drop":
        return [DROP] + codes_of(deed[1])
    return [UNDO]


def record_of(deed):
    """Return the record of a deed, a list of octets."""
    body = body_of(deed)
    return [len(body) // OCTETS % OCTETS, len(body) % OCTETS] + body + [sum(body) % OCTETS, END]


def is_name(text):
    """Tell whether a text is a name."""
    return 1 <= len(text) <= MOST_LETTERS and all([letter in LETTERS for letter in text])


def signs_of(codes):
    """Return the text of codes, an empty one if one of them is that of no sign."""
    signs = {ord(sign): sign for sign in SIGNS}
    if not all([code in signs for code in codes]):
        return ""
    return "".join([signs[code] for code in codes])


def message_of(notation):
    """Return the message of a notation, or None if it cannot be read."""
    try:
        return parse_message(notation)
    except (TokenError, EndError):
        return None


def deed_with(key, notation):
    """Return the deed of putting a notation under a key, of dropping it if there is none, or None."""
    if not is_name(key):
        return None
    if notation is None:
        return ("drop", key)
    message = message_of(notation)
    return None if message is None else ("put", key, message)


def deed_of(body):
    """Return the deed that a body tells, or None if it tells none."""
    deed = None
    if body == [UNDO]:
        deed = ("undo",)
    elif body[:1] == [DROP]:
        deed = deed_with(signs_of(body[1:]), None)
    elif body[:1] == [PUT] and len(body) > 1:
        text = signs_of(body[2:])
        deed = deed_with(text[:body[1]], text[body[1]:])
    # A notation may also be written otherwise than a record has it.
    return deed if deed is not None and body_of(deed) == body else None


def record_at(octets, place):
    """Return the deed of the whole record at a place, and where the record ends; None if there is no such record."""
    if place + 2 > len(octets):
        return None, place
    begin = place + 2
    end = begin + octets[place] * OCTETS + octets[place + 1]
    body = octets[begin:end]
    if octets[end:end + 2] != [sum(body) % OCTETS, END]:
        return None, place
    return deed_of(body), end + 2


def recovered(octets):
    """Return the deeds of the whole records, and how many octets these take."""
    deeds = []
    whole = 0
    deed, end = record_at(octets, 0)
    while deed is not None:
        deeds.append(deed)
        whole = end
        deed, end = record_at(octets, whole)
    return deeds, whole


class Device:
    """Octets that are written one by one, as long as there is power."""

    def __init__(self, octets, power):
        self.octets = list(octets)
        self.power = power

    def append(self, octet):
        """Write an octet."""
        if self.power <= 0:
            raise PowerCut(len(self.octets))
        self.octets.append(octet)
        self.power -= 1


def done(book, deed):
    """Do a deed to a book, and return what its method returns."""
    if deed[0] == "put":
        return book.put(deed[1], deed[2])
    if deed[0] == "drop":
        return book.drop(deed[1])
    return book.undo()


class JournaledBook:
    """A book whose deeds are written to a device."""

    def __init__(self, book, device):
        self.book = book
        self.device = device
        self.shut = False

    def perform(self, deed):
        """Do a deed and write its record, and return what the book's method returns."""
        if self.shut:
            raise ShutError()
        answer = done(self.book, deed)
        # Undoing without a deed is the only deed that does nothing.
        if deed[0] != "undo" or answer:
            self.write_record(record_of(deed))
        return answer

    def write_record(self, record):
        """Write a record octet by octet; if the power goes, the book is shut."""
        try:
            for octet in record:
                self.device.append(octet)
        except PowerCut:
            self.shut = True
            raise


def opened(octets, power):
    """Return the journaled book of the octets of a device, whose rest is cut off."""
    deeds, whole = recovered(octets)
    book = Book()
    for deed in deeds:
        try:
            done(book, deed)
        except NoSuchKey:
            # Its key was put before the journal began.
            continue
    return JournaledBook(book, Device(octets[:whole], power))
