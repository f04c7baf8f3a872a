"""The texts of grammars: how they are read, and how they are written."""

from graft.errors import Malformed
from graft.terms import CHARS, LENGTHS, LISTING, MOST_DEPTH, is_grammar

MOST_TEXT = 8000

# The kinds of tokens: words, strings, and the signs themselves.
WORD = "word"
STRING = "string"
SIGNS = "(),;=@"

# The heads of expressions that are a word alone, and of those with a string.
BARE = ("eps", "fail", "any")
QUOTING = ("set", "text")


def is_letter(sign):
    """Tell whether a character is a letter of a word."""
    return "a" <= sign <= "z"


def word_end(text, at):
    """Return the place behind the word that begins at a place."""
    end = at
    while end < len(text) and is_letter(text[end]):
        end += 1
    return end


def string_read(text, at):
    """Return what the string with its quote at a place contains, and the place behind it."""
    signs = []
    end = at + 1
    while end < len(text) and text[end] != "\"":
        if text[end] == "\\":
            end += 1
            if text[end:end + 1] not in ("\"", "\\"):
                raise Malformed(at)
        elif text[end] not in CHARS:
            raise Malformed(at)
        signs.append(text[end])
        end += 1
    if end == len(text):
        raise Malformed(at)
    return "".join(signs), end + 1


def token_read(text, at):
    """Return the token that begins at a place, as its kind, what it holds and its place, and the place behind it."""
    sign = text[at]
    if sign in SIGNS:
        return (sign, sign, at), at + 1
    if is_letter(sign):
        end = word_end(text, at)
        return (WORD, text[at:end], at), end
    if sign != "\"":
        raise Malformed(at)
    held, end = string_read(text, at)
    return (STRING, held, at), end


def tokens_of(text):
    """Return the list of the tokens of a text."""
    tokens = []
    at = 0
    while at < len(text):
        if text[at] in " \n":
            at += 1
        else:
            token, at = token_read(text, at)
            tokens.append(token)
    return tokens


class Reader:
    """The tokens of a text, read one by one; what is told of the next one holds also if there is none left."""

    def __init__(self, text):
        self.tokens = tokens_of(text)
        self.after = len(text)
        self.taken = 0

    def is_done(self):
        """Tell whether no token is left."""
        return self.taken == len(self.tokens)

    def place(self):
        """Return the place of the next token, or the length of the text."""
        return self.after if self.is_done() else self.tokens[self.taken][2]

    def is_next(self, kind):
        """Tell whether the next token is of a kind."""
        return not self.is_done() and self.tokens[self.taken][0] == kind

    def take(self, kind):
        """Go over the next token, which must be of a kind, and return what it holds."""
        if not self.is_next(kind):
            raise Malformed(self.place())
        self.taken += 1
        return self.tokens[self.taken - 1][1]

    def read_head(self):
        """Go over the head of an expression, which @ is for a call, and return it."""
        at = self.place()
        if self.is_next("@"):
            self.take("@")
            return "call"
        word = self.take(WORD)
        if word == "call" or word not in LENGTHS:
            raise Malformed(at)
        return word

    def read_parts(self, depth):
        """Read the parts of a seq or an alt, which are at this depth."""
        self.take("(")
        if self.is_next(")"):
            self.take(")")
            return ()
        found = [self.read_expression(depth)]
        while self.is_next(","):
            self.take(",")
            found.append(self.read_expression(depth))
        self.take(")")
        return tuple(found)

    def read_inner(self, depth):
        """Read the one expression inside another one, which is at this depth."""
        self.take("(")
        found = self.read_expression(depth)
        self.take(")")
        return found

    def read_expression(self, depth):
        """Read an expression at this depth."""
        if depth > MOST_DEPTH:
            raise Malformed(self.place())
        head = self.read_head()
        if head in BARE:
            return (head,)
        if head in QUOTING:
            return head, self.take(STRING)
        if head == "call":
            return head, self.take(WORD)
        if head in LISTING:
            return head, self.read_parts(depth + 1)
        if head == "mark":
            label = self.take(WORD)
            return head, label, self.read_inner(depth + 1)
        return head, self.read_inner(depth + 1)

    def read_rule(self):
        """Read a rule."""
        name = self.take(WORD)
        self.take("=")
        expression = self.read_expression(1)
        self.take(";")
        return name, expression


def parse(text):
    """Return the grammar of a text."""
    if len(text) > MOST_TEXT:
        raise Malformed(MOST_TEXT)
    reader = Reader(text)
    rules = [reader.read_rule()]
    while not reader.is_done():
        rules.append(reader.read_rule())
    grammar = tuple(rules)
    if not is_grammar(grammar):
        raise Malformed(len(text))
    return grammar


def quoted(signs):
    """Return a string as it stands in a text."""
    inside = signs.replace("\\", "\\\\").replace("\"", "\\\"")
    return "\"" + inside + "\""


def shown(expression):
    """Return the text of an expression."""
    head = expression[0]
    if head in BARE:
        return head
    if head in QUOTING:
        return head + quoted(expression[1])
    if head == "call":
        return "@" + expression[1]
    if head in LISTING:
        return head + "(" + ",".join([shown(part) for part in expression[1]]) + ")"
    if head == "mark":
        # Only here two words meet, so only here a space is needed.
        head += " " + expression[1]
    return head + "(" + shown(expression[-1]) + ")"


def show(grammar):
    """Return the text of a grammar.

    It is as short as a text of the grammar can be, so parse takes it back if it
    takes any text of this grammar.
    """
    return "".join([name + "=" + shown(expression) + ";" for name, expression in grammar])
