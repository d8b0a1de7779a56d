"""Forms: the ways of writing days, read into their pieces."""

from inkdays.errors import BadForm

LONGEST_FORM = 30
MOST_LACKING_PARTS = 3
PLACES = ("<d>", "<m>", "<y>", "<Y>", "<n>", "<w>")
PLAIN_SIGNS = "abcdefghijklmnopqrstuvwxyz0123456789 ./-,"


def token_at(form, start):
    place = form[start:start + 3]
    if place in PLACES:
        return place
    sign = form[start]
    if sign in PLAIN_SIGNS or sign in "[]":
        return sign
    raise BadForm("this sign has no meaning here in a form")


def cut_into_tokens(form):
    tokens = []
    start = 0
    while start < len(form):
        token = token_at(form, start)
        tokens.append(token)
        start += len(token)
    return tokens


def piece_of(token, part):
    if token in PLACES:
        return ("place", token[1], part)
    return ("sign", token, part)


def number_pieces(tokens):
    pieces = []
    parts = 0
    inside = False
    for k, token in enumerate(tokens):
        if token == "[":
            if inside:
                raise BadForm("a lacking part stands within another one")
            inside = True
            parts += 1
        elif token == "]":
            if not inside:
                raise BadForm("a lacking part ends that has not begun")
            if tokens[k - 1] == "[":
                raise BadForm("a lacking part has no piece")
            inside = False
        else:
            pieces.append(piece_of(token, parts if inside else 0))
    if inside:
        raise BadForm("a lacking part does not end")
    if parts > MOST_LACKING_PARTS:
        raise BadForm("a form has at most three lacking parts")
    return pieces


def read_form(form):
    if len(form) < 1 or len(form) > LONGEST_FORM:
        raise BadForm("a form has 1 to 30 signs")
    tokens = cut_into_tokens(form)
    for place in PLACES:
        if tokens.count(place) > 1:
            raise BadForm("a place stands twice in the form")
    return number_pieces(tokens)
