"""The notation of messages: writing it and reading it."""

from messageways.errors import EndError, TokenError
from messageways.messages import CATEGORIES, cases_of, joined_texts, other_of

ESCAPES = {"'": "''", "{": "'{'", "}": "'}'", "#": "'#'"}
LETTERS = "abcdefghijklmnopqrstuvwxyz"
FIGURES = "0123456789"
SPACES = " \n"
OFFSET_MARK = "offset:"
MOST_LETTERS = 8
OFFSET_FIGURES = 1
KEY_FIGURES = 3


def escaped(string):
    """Return the notation of a text."""
    return "".join([ESCAPES.get(sign, sign) for sign in string])


def key_notation(key):
    """Return the notation of the key of a case."""
    return key if isinstance(key, str) else f"={key}"


def choice_parts(node):
    """Return the strings and the messages of which the notation of a choice is made."""
    parts = ["{" + node[1] + ", " + node[0] + ", "]
    if node[0] == "plural" and node[2] != 0:
        parts.append(f"{OFFSET_MARK}{node[2]} ")
    for key, message in cases_of(node):
        parts.extend([key_notation(key) + " {", message, "} "])
    return parts + ["other {", other_of(node), "}}"]


def node_parts(node):
    """Return the strings and the messages of which the notation of a node is made."""
    if node[0] == "text":
        return [escaped(node[1])]
    if node[0] == "show":
        return ["{" + node[1] + "}"]
    if node[0] == "number":
        return ["#"]
    return choice_parts(node)


def format_message(message):
    """Return the notation of a message."""
    written = []
    # What is still to be written, the next one last: strings, nodes and messages.
    ahead = [message]
    while ahead:
        part = ahead.pop()
        if isinstance(part, str):
            written.append(part)
        elif isinstance(part, list):
            ahead.extend(part[::-1])
        else:
            ahead.extend(node_parts(part)[::-1])
    return "".join(written)


def is_text_sign(sign):
    """Tell whether texts may have a character."""
    return sign == "\n" or " " <= sign <= "~"


class OpenChoice:
    """A choice of which the cases are still being read."""

    def __init__(self, head, around):
        self.head = head
        self.around = around
        self.cases = {}
        self.key = None

    def closed(self, other):
        """Return the node of the choice, with its other message."""
        return self.head + (list(self.cases.items()), other)


class Reader:
    """What has been read of a notation, up to a place."""

    def __init__(self, text):
        self.text = text
        self.place = 0
        # The nodes of the message that is being read, and the choices around it.
        self.nodes = []
        self.choices = []
        self.plurals = 0

    def sign_ahead(self):
        """Return the character at the place, where the notation may not end."""
        if self.place >= len(self.text):
            raise EndError()
        return self.text[self.place]

    def skip_spaces(self):
        """Go to the next character that is no space and no line feed."""
        while self.place < len(self.text) and self.text[self.place] in SPACES:
            self.place += 1

    def take_sign(self, sign):
        """Take a sign that has to come next, behind any spaces."""
        self.skip_spaces()
        if self.sign_ahead() != sign:
            raise TokenError(self.place)
        self.place += 1

    def take_row(self, signs):
        """Take the longest row of such signs that begins here, at least one."""
        begin = self.place
        if self.sign_ahead() not in signs:
            raise TokenError(begin)
        while self.place < len(self.text) and self.text[self.place] in signs:
            self.place += 1
        return self.text[begin:self.place]

    def take_name(self):
        """Take a name, or another word, that begins here."""
        begin = self.place
        name = self.take_row(LETTERS)
        if len(name) > MOST_LETTERS:
            raise TokenError(begin)
        return name

    def take_number(self, most):
        """Take a number that begins here: of so many figures at most, without needless zeros."""
        begin = self.place
        figures = self.take_row(FIGURES)
        if len(figures) > most or (len(figures) > 1 and figures[0] == "0"):
            raise TokenError(begin)
        return int(figures)

    def take_kind(self):
        """Take the kind of a choice."""
        self.skip_spaces()
        begin = self.place
        kind = self.take_row(LETTERS)
        if kind not in ("select", "plural"):
            raise TokenError(begin)
        return kind

    def take_offset(self):
        """Take the offset of a plural: 0 if none is written."""
        self.skip_spaces()
        if not self.text.startswith(OFFSET_MARK, self.place):
            return 0
        self.place += len(OFFSET_MARK)
        return self.take_number(OFFSET_FIGURES)

    def take_plural_key(self):
        """Take the key of a case of a plural, or "other"."""
        if self.sign_ahead() == "=":
            self.place += 1
            return self.take_number(KEY_FIGURES)
        begin = self.place
        key = self.take_name()
        if key != "other" and key not in CATEGORIES:
            raise TokenError(begin)
        return key

    def begin_case(self):
        """Read the next key of the innermost choice, up to its message."""
        choice = self.choices[-1]
        self.skip_spaces()
        begin = self.place
        key = self.take_plural_key() if choice.head[0] == "plural" else self.take_name()
        if key in choice.cases:
            raise TokenError(begin)
        choice.key = key
        self.take_sign("{")
        self.nodes = []

    def begin_choice(self, name):
        """Read a choice from behind its name up to its first message."""
        self.take_sign(",")
        kind = self.take_kind()
        self.take_sign(",")
        head = (kind, name)
        if kind == "plural":
            head = (kind, name, self.take_offset())
            self.plurals += 1
        self.choices.append(OpenChoice(head, self.nodes))
        self.begin_case()

    def read_argument(self):
        """Read a show, or a choice up to its first message."""
        self.take_sign("{")
        self.skip_spaces()
        name = self.take_name()
        self.skip_spaces()
        if self.sign_ahead() == "}":
            self.place += 1
            self.nodes.append(("show", name))
        else:
            self.begin_choice(name)

    def end_message(self):
        """Read on behind the message of a case: up to the next one, or the end of the choice."""
        self.take_sign("}")
        choice = self.choices[-1]
        message = joined_texts(self.nodes)
        if choice.key != "other":
            choice.cases[choice.key] = message
            self.begin_case()
            return
        self.take_sign("}")
        self.choices.pop()
        if choice.head[0] == "plural":
            self.plurals -= 1
        self.nodes = choice.around
        self.nodes.append(choice.closed(message))

    def read_escape(self):
        """Read a character of a text that is written with apostrophes."""
        for sign in ESCAPES:
            if self.text.startswith(ESCAPES[sign], self.place):
                self.place += len(ESCAPES[sign])
                self.nodes.append(("text", sign))
                return
        raise TokenError(self.place)

    def read_sign(self):
        """Read a single sign of a message: that of a number, or a character of a text."""
        sign = self.sign_ahead()
        if sign == "#" and self.plurals > 0:
            self.nodes.append(("number",))
        elif sign in "}#" or not is_text_sign(sign):
            raise TokenError(self.place)
        else:
            self.nodes.append(("text", sign))
        self.place += 1

    def read_next(self):
        """Read the next thing that stands in a message, or that ends it."""
        sign = self.sign_ahead()
        if sign == "{":
            self.read_argument()
        elif sign == "}" and self.choices:
            self.end_message()
        elif sign == "'":
            self.read_escape()
        else:
            self.read_sign()


def parse_message(text):
    """Return the message of a notation, in plain form."""
    reader = Reader(text)
    while reader.place < len(text):
        reader.read_next()
    if reader.choices:
        raise EndError()
    return joined_texts(reader.nodes)
