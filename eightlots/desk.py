"""A desk: LOTS turned, mended and led by requests, with undo and redo [23]."""

from eightlots.board import lot_sum
from eightlots.eights import counts, eight_of
from eightlots.errors import BadLine, NothingDone, NoWay, Unfit
from eightlots.kinds import are_like
from eightlots.lots import MANY_LAMPS, settled
from eightlots.mending import mendings
from eightlots.otherwise import lot_worth
from eightlots.rightlots import is_right
from eightlots.shuffles import behind, is_keeping, led_lot, shuffle_back
from eightlots.texts import lamp_words, lines_of, lot_text, read_lot, read_shuffle, shuffle_text

FIVE = 5
DEEDS = ("lot", "turn", "eight", "mend", "lead", "home")
LOOKS = ("show", "led", "right", "mends", "counts", "worth", "like")
WITH_TEXT = ("lot", "lead", "like")
WITH_LAMPS = ("turn", "eight")
BACK = ("undo", "redo")


def at_home():
    """The SHUFFLE that leads each LAMP to itself."""
    return tuple(range(MANY_LAMPS))


def first_desk():
    """The DESK at the beginning."""
    return ((), at_home()), (), ()


def word_of(request):
    """The first word of a request."""
    return request.split("\n")[0].split(" ")[0]


def text_of(request):
    """The text of a request: its lines behind the first one, each without its first blank."""
    return "\n".join([line[1:] for line in request.split("\n")[1:]])


def lamps_of(line):
    """The LAMPS, ascending, behind the first word of a line; () if what is there are no such LAMPS."""
    names = lamp_words()
    words = line.split(" ")[1:]
    if not all([word in names for word in words]):
        return ()
    lamps = [names.index(word) for word in words]
    return tuple(lamps) if lamps == sorted(set(lamps)) else ()


def is_request(thing):
    """Whether thing is a string that is one request."""
    if not isinstance(thing, str):
        return False
    line, *more = thing.split("\n")
    if not all([own.startswith(" ") for own in more]):
        return False
    if line in WITH_TEXT:
        return len(more) > 0
    if more:
        return False
    many = len(lamps_of(line))
    if word_of(line) in WITH_LAMPS:
        return many == FIVE or (many > 0 and word_of(line) == "turn")
    return line in DEEDS or line in LOOKS or line in BACK


def requests(text):
    """The list of the requests of text."""
    found = []
    starts = []
    for number, line in enumerate(lines_of(text)):
        if found and line.startswith(" "):
            found[-1] += "\n" + line
        else:
            found.append(line)
            starts.append(number + 1)
    for request, start in zip(found, starts):
        if not is_request(request):
            raise BadLine(start)
    return found


def need_request(request, words):
    """Raise Unfit if request is none that begins with one of words."""
    if not is_request(request) or word_of(request) not in words:
        raise Unfit()


def mended(lot):
    """The sum of lot with its MENDING."""
    found = mendings(lot)
    if len(found) > 1:
        raise NoWay()
    return lot_sum((lot, found[0]))


def led_scene(scene, shuffle):
    """The SCENE behind scene, all of it led by shuffle, a keeping SHUFFLE."""
    lot, led = scene
    if not is_keeping(shuffle):
        raise Unfit()
    return led_lot(shuffle, lot), behind(shuffle, led)


def scene_after(scene, request):
    """The SCENE behind a deed."""
    need_request(request, DEEDS)
    lot, led = settled(scene)
    word = word_of(request)
    if word == "lot":
        return read_lot(text_of(request)), at_home()
    if word == "turn":
        return lot_sum((lot, lamps_of(request))), led
    if word == "eight":
        return lot_sum((lot, eight_of(lamps_of(request)))), led
    if word == "mend":
        return mended(lot), led
    if word == "lead":
        return led_scene((lot, led), read_shuffle(text_of(request)))
    return led_lot(shuffle_back(led), lot), at_home()


def yes_or_no(so):
    """The word for True or False."""
    return "yes" if so else "no"


def numbers_told(numbers):
    """The numbers with blanks between, - if there are none."""
    return " ".join([str(number) for number in numbers]) if numbers else "-"


def said(scene, request):
    """What a look tells."""
    need_request(request, LOOKS)
    lot, led = settled(scene)
    word = word_of(request)
    if word == "show":
        return lot_text(lot)
    if word == "led":
        return shuffle_text(led)
    if word == "right":
        return yes_or_no(is_right(lot))
    if word == "mends":
        return "; ".join([numbers_told(own) for own in mendings(lot)])
    if word == "counts":
        return numbers_told(counts(lot))
    if word == "worth":
        return str(lot_worth(lot))
    return yes_or_no(are_like(read_lot(text_of(request)), lot))


def taken_back(scene, pairs, others):
    """The SCENE of the last of pairs, the pairs ahead of it, others with a pair more, and the word of it."""
    if not pairs:
        raise NothingDone()
    word, ahead = pairs[-1]
    return ahead, pairs[:-1], others + ((word, scene),), word


def done(desk, request):
    """The pair of the DESK behind a request, and the reply."""
    scene, past, later = desk
    word = word_of(request)
    if word == "undo":
        scene, past, later, reply = taken_back(scene, past, later)
        return (scene, past, later), reply
    if word == "redo":
        scene, later, past, reply = taken_back(scene, later, past)
        return (scene, past, later), reply
    if word in LOOKS:
        return desk, said(scene, request)
    return (scene_after(scene, request), past + ((word, scene),), ()), "done"


def worked(desk, request):
    """The pair of the DESK behind a request, and the reply, also where it is refused."""
    if not is_request(request):
        raise Unfit()
    desk = settled(desk)
    try:
        return done(desk, request)
    except NoWay:
        return desk, "refused NoWay"
    except Unfit:
        return desk, "refused Unfit"
    except BadLine:
        return desk, "refused BadLine"
    except NothingDone:
        return desk, "refused NothingDone"


def session(desk, text):
    """The pair of the DESK behind all requests of text, and the tuple of the replies."""
    desk = settled(desk)
    replies = []
    for request in requests(text):
        desk, reply = worked(desk, request)
        replies.append(reply)
    return desk, tuple(replies)
