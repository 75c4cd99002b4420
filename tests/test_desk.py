"""A desk [23]: each function, its edges, its errors, and the guarantees."""

import random
import re
import unittest

from eightlots import desk
from eightlots.errors import BadLine, NoWay, Unfit
from tests.helper import (EIGHTS, LAMPS, LIFT, MIXED, RIGHT, RIGHT_SET, SPIN, STRANGE, SWAP, TURNED, Case, counts_of, deep_lists,
                          done_behind, keeps_by_rule, kind_by_rule, led_by, mendings_of, some_keeping, some_lots, sum_lots)
from tests.test_otherwise import worth_by_rule
from tests.test_shuffles import back_of
from tests.test_texts import BLANK, FEED, LONG, ROUND, bad_line, is_begun_lot, is_begun_shuffle, lot_by_rule, numbers_by_rule

HARD, EASY = (3, 7, 8, 9, 14, 20), (0, 5, 10, 11, 17, 20)
LOT_TEXT = lot_by_rule(EASY)
FIRST = (((), LAMPS), (), ())
DEEDS = ("lot", "turn", "eight", "mend", "lead", "home")
LOOKS = ("show", "led", "right", "mends", "counts", "worth", "like")
NO_REQUESTS = (
    "", FEED, BLANK, "lot", "lead", "like", "turn", "eight", "turn ", "eight ", "turn 24", "turn -1", "turn 5 3", "turn 3 3", "turn 03",
    "turn 0 1 2 ", "turn  1", "turn 1  2", " turn 1", "turn 1\n", "turn 1\n 2", "turn1", "turn a", "turn 1 a", "Turn 1", "turn,1",
    "turn +1", "turn 1.0", "turn 1e0", "eight 1 2 3 4", "eight 1 2 3 4 5 6", "eight 5 4 3 2 1", "eight 1 2 3 4 4", "eight 1 2 3 4 24",
    "eight 1 2 3 4 05", "eight 1 2 3 4 5 ", "mend 1", "mend ", " mend", "mend\n x", "mend\n", "mends 1", "home\n lot", "show\n x",
    "led 0", "right?", "Right", "RIGHT", "counts\n 1", "worth 5", "undo 1", "undo\n", "redo\n redo", "undo redo", "lot 0 1", "lot\n",
    "lot\nx", "lot\n x\n", "lot\n x\ny", "lot\n x\n\n y", "lot \n x", "lead\nx", "lead 0", "lot\n x\nlot\n x", "show\nshow", "look", "quit",
    "turn " + " ".join(map(str, LAMPS)) + " 24", "mend mend", "undone", "lots\n x", "deed", "-", "0", "done", "tur", "turn\t1", "turn 1\r")


def with_text(word, text):
    """The request of this word with this text."""
    return word + "".join(FEED + BLANK + line for line in text.split(FEED))


def is_request_by_rule(thing):
    """Whether thing is a string that is one request."""
    if type(thing) is not str:
        return False
    if re.fullmatch("(lot|lead|like)(\n [^\n]*)+", thing) or re.fullmatch("mend|home|show|led|right|mends|counts|worth|undo|redo", thing):
        return True
    if not re.fullmatch("(turn|eight)( (0|[1-9][0-9]*))+", thing):
        return False
    lamps = [int(word) for word in thing.split(BLANK)[1:]]
    return lamps == sorted(set(lamps)) and lamps[-1] < 24 and (thing.startswith("turn") or len(lamps) == 5)


def requests_by_rule(text):
    """The requests of a text, or the number of the line that is bad."""
    found, at, lines = [], 0, text.split(FEED) if text else []
    while at < len(lines):
        end = at + 1
        while end < len(lines) and lines[end].startswith(BLANK):
            end += 1
        request = FEED.join(lines[at:end])
        if not is_request_by_rule(request):
            return at + 1
        found.append(request)
        at = end
    return found


def lot_of_text(text):
    """The LOT with this text, None if it has a bad line."""
    if bad_line(text, is_begun_lot) is not None:
        return None
    rows = text.split(FEED)[1:]
    return tuple(lamp for lamp in LAMPS if rows[lamp % 4][lamp // 4 + 1] == "*")


def shuffle_of_text(text):
    """The SHUFFLE with this text, None if it has a bad line."""
    if bad_line(text, is_begun_shuffle) is not None:
        return None
    rows = [line.split() for line in text.split(FEED)[1:]]
    return tuple(int(rows[lamp % 4][lamp // 4]) for lamp in LAMPS)


def text_by_rule(request):
    """The text of a request."""
    return FEED.join(line[1:] for line in request.split(FEED)[1:])


def deed_by_rule(scene, request):
    """The SCENE behind a deed, or the name of the class of its error."""
    lot, led = scene
    word, *more = request.split(FEED)[0].split(BLANK)
    lamps = tuple(int(own) for own in more)
    if word == "lot":
        found = lot_of_text(text_by_rule(request))
        return "BadLine" if found is None else (found, LAMPS)
    if word == "turn":
        return (sum_lots(lot, lamps), led)
    if word == "eight":
        eight = next(own for own in EIGHTS if set(lamps) <= set(own))
        return (sum_lots(lot, eight), led)
    if word == "mend":
        found = mendings_of(lot)
        return (sum_lots(lot, found[0]), led) if len(found) == 1 else "NoWay"
    if word == "home":
        return (led_by(back_of(led), lot), LAMPS)
    shuffle = shuffle_of_text(text_by_rule(request))
    if shuffle is None:
        return "BadLine"
    return (led_by(shuffle, lot), done_behind(shuffle, led)) if keeps_by_rule(shuffle) else "Unfit"


def look_by_rule(scene, request):
    """What a look tells, or None where it raises BadLine."""
    lot, led = scene
    word = request.split(FEED)[0]
    if word == "like":
        found = lot_of_text(text_by_rule(request))
        return None if found is None else ("yes" if kind_by_rule(found) == kind_by_rule(lot) else "no")
    return {"show": lambda: lot_by_rule(lot), "led": lambda: numbers_by_rule("shuffle", led),
            "right": lambda: "yes" if lot in RIGHT_SET else "no",
            "mends": lambda: "; ".join(" ".join(map(str, own)) or "-" for own in mendings_of(lot)),
            "counts": lambda: " ".join(map(str, counts_of(lot))), "worth": lambda: str(worth_by_rule(lot))}[word]()


def worked_by_rule(own, request):
    """The pair of the DESK behind a request, and the reply."""
    scene, past, later = own
    word = re.match("[a-z]*", request).group()
    if word == "undo":
        if not past:
            return own, "refused NothingDone"
        return (past[-1][1], past[:-1], later + ((past[-1][0], scene),)), past[-1][0]
    if word == "redo":
        if not later:
            return own, "refused NothingDone"
        return (later[-1][1], past + ((later[-1][0], scene),), later[:-1]), later[-1][0]
    if word in LOOKS:
        told = look_by_rule(scene, request)
        return own, "refused BadLine" if told is None else told
    found = deed_by_rule(scene, request)
    if isinstance(found, str):
        return own, "refused " + found
    return (found, past + ((word, scene),), ()), "done"


def some_requests(seed, many):
    """Requests of all kinds, some of which are refused."""
    source = random.Random(seed)
    lots, keeping = some_lots(seed, 40), some_keeping(seed, 12)
    found = ["mend", "home", "show", "led", "right", "mends", "counts", "worth", "undo", "redo", "lot\n x", "lead\n x", "like\n x",
             with_text("lead", numbers_by_rule("shuffle", SWAP)), with_text("lot", LOT_TEXT + FEED), with_text("like", LONG),
             with_text("lead", ROUND), "lot\n  ", "turn " + " ".join(map(str, LAMPS)), "turn 0", "turn 23", "eight 0 1 2 3 4"]
    while len(found) < many:
        kind = source.randrange(10)
        lot = source.choice(lots)
        if kind < 3 and lot:
            found.append("turn " + " ".join(map(str, source.choice((lot, lot[:1], lot[-2:])))))
        elif kind == 3:
            found.append("eight " + " ".join(map(str, sorted(source.sample(LAMPS, 5)))))
        elif kind == 4:
            found.append(with_text("lead", numbers_by_rule("shuffle", source.choice(keeping + [LAMPS[::-1]]))))
        elif kind == 5:
            found.append(with_text(source.choice(("lot", "like")), lot_by_rule(source.choice((lot, source.choice(RIGHT), HARD)))))
        elif kind < 8:
            found.append(source.choice(("undo", "undo", "redo", "mend", "home")))
        else:
            found.append(source.choice(("show", "led", "right", "mends", "counts", "worth", "undo", "redo")))
    return found


def some_scenes(seed, many):
    """SCENES of all kinds."""
    source = random.Random(seed)
    scenes = [((), LAMPS), (LAMPS, LAMPS), (HARD, MIXED), (EASY, SPIN), (EIGHTS[7], LIFT)]
    while len(scenes) < many:
        scenes.append((source.choice(some_lots(seed, 60)), source.choice(some_keeping(seed, 20))))
    return scenes


class Requests(Case):

    def test_is_request(self):
        good = some_requests(401, 120) + ["lot\n \n ", "like\n lot\n lot", "lead\n  x\n y\n  "]
        for request in good:
            self.assertTrue(is_request_by_rule(request))
            self.assertIs(desk.is_request(request), True)
        things = good + list(NO_REQUESTS) + [own + more for own in good[:20] for more in (BLANK, FEED, " 1", "\n x", "\nshow", "x")]
        things += [BLANK + own for own in good[:20]] + [own.upper() for own in good[:20]] + [[own] for own in good[:5]]
        things += [(own,) for own in good[:5]] + [tuple(good), list(good), ("turn", 1), ("turn", (1,))]
        self.assert_things(desk.is_request, (), is_request_by_rule, things)
        for thing in NO_REQUESTS:
            self.assertIs(desk.is_request(thing), False, thing)

    def test_requests(self):
        source = random.Random(402)
        good = some_requests(402, 80)
        for many in (0, 1, 1, 2, 3, 5, 8) * 6:
            own = [source.choice(good) for _ in range(many)]
            text = FEED.join(own)
            self.assertEqual(requests_by_rule(text), own)
            self.assert_same(desk.requests(text), own)
            self.assert_same(desk.requests(text=text), own)
            found = desk.requests(text)
            found.append("more")
            self.assert_same(desk.requests(text), own)
        self.assert_same(desk.requests(""), [])

    def check_bad(self, text):
        """text has requests, or a bad line, just as the rule says."""
        expected = requests_by_rule(text)
        if isinstance(expected, int):
            self.assert_raises(BadLine, {"number": expected}, desk.requests, text)
            self.assert_raises(BadLine, {"number": expected}, desk.session, FIRST, text)
        else:
            self.assert_same(desk.requests(text), expected)

    def test_bad_lines(self):
        source = random.Random(403)
        good = some_requests(403, 60)
        for bad in NO_REQUESTS:
            self.check_bad(bad)
            own = [source.choice(good) for _ in range(source.randrange(4))]
            self.check_bad(FEED.join(own + [bad]))
            self.check_bad(FEED.join(own + [bad] + own))
            self.check_bad(FEED.join([bad] + own + [bad]))
        for _ in range(200):
            text = FEED.join(source.choice(good) for _ in range(3))
            place = source.randrange(len(text))
            self.check_bad(text[:place] + source.choice((FEED, BLANK, "", "x", "1", "-")) + text[place + source.randrange(2):])

    def test_edges_of_bad_lines(self):
        for text, number in (("look", 1), ("show\nlook", 2), (" show", 1), ("show\n", 2), ("show\n\nshow", 2), (FEED, 1), ("lot", 1),
                             ("show\nlot\nshow", 2), ("show\nshow\n x\n y\nlook", 2), (with_text("lot", LOT_TEXT) + FEED, 7),
                             (with_text("lot", LOT_TEXT) + "\nlook", 7), ("turn 1\nturn 1 1", 2), ("\nshow", 1), (" x\nlook", 1)):
            self.assert_raises(BadLine, {"number": number}, desk.requests, text)
            self.assert_raises(BadLine, {"number": number}, desk.session, FIRST, text)
            self.assert_raises(BadLine, {"number": number}, desk.session, text=text, desk=deep_lists(FIRST))


class Scenes(Case):

    def test_deeds(self):
        seen = set()
        for scene in some_scenes(404, 20):
            for request in some_requests(404, 90):
                word = re.match("[a-z]*", request).group()
                if word not in DEEDS:
                    self.assert_raises(Unfit, {}, desk.scene_after, scene, request)
                    continue
                expected = deed_by_rule(scene, request)
                if isinstance(expected, str):
                    seen.add((word, expected))
                    with self.assertRaises(ValueError) as held:
                        desk.scene_after(deep_lists(scene), request)
                    self.assertEqual(type(held.exception).__name__, expected)
                else:
                    seen.add((word, "done"))
                    self.assert_same(desk.scene_after(scene, request), expected)
                    self.assert_same(desk.scene_after(deep_lists(scene), request=request), expected)
        self.assertEqual(seen, {(word, "done") for word in DEEDS} | {("lot", "BadLine"), ("lead", "BadLine"), ("lead", "Unfit"),
                                                                       ("mend", "NoWay")})

    def test_looks(self):
        seen = set()
        for scene in some_scenes(405, 20):
            for request in some_requests(405, 60) + [with_text("like", lot_by_rule(scene[0]))]:
                word = re.match("[a-z]*", request).group()
                if word not in LOOKS:
                    self.assert_raises(Unfit, {}, desk.said, scene, request)
                    continue
                expected = look_by_rule(scene, request)
                if expected is None:
                    number = bad_line(text_by_rule(request), is_begun_lot)
                    self.assert_raises(BadLine, {"number": number}, desk.said, scene, request)
                else:
                    seen.add((word, expected in ("yes", "no") and expected))
                    self.assert_same(desk.said(scene, request), expected)
                    self.assert_same(desk.said(deep_lists(scene), request=request), expected)
        self.assertEqual(len(seen), 9)

    def test_errors_of_what_is_called(self):
        scene = (HARD, MIXED)
        self.assert_raises(NoWay, {}, desk.scene_after, scene, "mend")
        self.assert_raises(Unfit, {}, desk.scene_after, scene, with_text("lead", numbers_by_rule("shuffle", SWAP)))
        self.assert_raises(BadLine, {"number": 1}, desk.scene_after, scene, "lot\n x")
        self.assert_raises(BadLine, {"number": 6}, desk.scene_after, scene, with_text("lot", LOT_TEXT + FEED))
        self.assert_raises(BadLine, {"number": 1}, desk.scene_after, scene, with_text("lead", LOT_TEXT))
        self.assert_raises(BadLine, {"number": 2}, desk.scene_after, scene, with_text("lead", ROUND.replace(" 0 4", " 4 4")))
        self.assert_raises(BadLine, {"number": 4}, desk.said, scene, with_text("like", LOT_TEXT.replace("..*...", "..x...", 1)))
        self.assert_raises(BadLine, {"number": 2}, desk.said, scene, "like\n lot")

    def test_another_string_is_unfit_first(self):
        for request in list(NO_REQUESTS) + ["undo", "redo"]:
            for function in (desk.scene_after, desk.said):
                self.assert_raises(Unfit, {}, function, (HARD, LAMPS), request)
                self.assert_raises(Unfit, {}, function, request=request, scene=[[], list(LAMPS)])
        for word in LOOKS[:-1] + ("like\n x",):
            self.assert_raises(Unfit, {}, desk.scene_after, ((), LAMPS), word)
        for word in ("mend", "home", "turn 1", "eight 0 1 2 3 4", "lot\n x", "lead\n x"):
            self.assert_raises(Unfit, {}, desk.said, ((), LAMPS), word)


class Desks(Case):

    def test_first_desk(self):
        self.assert_same(desk.first_desk(), FIRST)

    def test_worked(self):
        source = random.Random(406)
        replies = set()
        for seed in range(8):
            own = FIRST
            good = some_requests(407 + seed, 60) + ["mend", "undo"] * 6
            for _ in range(90):
                request = source.choice(good)
                expected = worked_by_rule(own, request)
                self.assert_same(desk.worked(own, request), expected)
                self.assert_same(desk.worked(deep_lists(own), request=request), expected)
                own = expected[0]
                replies.add(expected[1].split(FEED)[0] if len(expected[1]) > 40 else expected[1])
        expected = {"done", "yes", "no", "turn", "lot", "mend", "lead", "home", "eight", "refused NoWay", "refused Unfit",
                    "refused BadLine", "refused NothingDone"}
        self.assertEqual(expected - replies, set())

    def test_no_request(self):
        own = desk.session(FIRST, "turn 1\nturn 2\nundo")[0]
        for request in NO_REQUESTS:
            self.assert_raises(Unfit, {}, desk.worked, own, request)
            self.assert_raises(Unfit, {}, desk.worked, request=request, desk=deep_lists(own))

    def test_sessions(self):
        source = random.Random(415)
        for seed in range(416, 424):
            requests = [source.choice(some_requests(seed, 60)) for _ in range(20)]
            own, replies = FIRST, []
            for request in requests:
                own, reply = worked_by_rule(own, request)
                replies.append(reply)
            expected = (own, tuple(replies))
            self.assert_same(desk.session(FIRST, FEED.join(requests)), expected)
            self.assert_same(desk.session(desk=deep_lists(FIRST), text=FEED.join(requests)), expected)
            half, told = desk.session(FIRST, FEED.join(requests[:9]))
            rest, more = desk.session(half, FEED.join(requests[9:]))
            self.assert_same((rest, told + more), expected)
        self.assert_same(desk.session(FIRST, ""), (FIRST, ()))
        self.assert_same(desk.session(deep_lists(own), ""), (own, ()))

    def test_nothing_is_done_where_a_line_is_bad(self):
        own = deep_lists(FIRST)
        self.assert_raises(BadLine, {"number": 3}, desk.session, own, "turn 1\nturn 2\nlook")
        self.assert_same(own, deep_lists(FIRST))

    def test_undo_and_redo(self):
        scenes = [FIRST[0]]
        own = FIRST
        for request in ("turn 0 5", "eight 0 1 2 3 4", "mend", with_text("lead", numbers_by_rule("shuffle", TURNED)), "home"):
            own, reply = desk.worked(own, request)
            self.assertEqual(reply, "done")
            self.assertEqual(desk.worked(own, "redo"), (own, "refused NothingDone"))
            scenes.append(own[0])
        words = ["turn", "eight", "mend", "lead", "home"]
        self.assertEqual([pair[0] for pair in own[1]], words)
        last = own
        for k in range(4, -1, -1):
            own, reply = desk.worked(own, "undo")
            self.assertEqual((own[0], reply), (scenes[k], words[k]))
        self.assert_same(desk.worked(own, "undo"), (own, "refused NothingDone"))
        for k in range(5):
            own, reply = desk.worked(own, "redo")
            self.assertEqual((own[0], reply), (scenes[k + 1], words[k]))
        self.assert_same(own, last)
        own = desk.session(own, "undo\nundo\nturn 7")[0]
        self.assert_same(own[2], ())
        self.assertEqual([pair[0] for pair in own[1]], words[:3] + ["turn"])

    def test_what_is_refused_and_looks_change_nothing(self):
        own = desk.session(FIRST, "turn 3 7 8 9 14 20\nturn 1\nundo")[0]
        for request in ("mend", "lot\n x", "lead\n x", "like\n x", with_text("lead", numbers_by_rule("shuffle", SWAP))) + LOOKS[:-1]:
            self.assert_same(desk.worked(own, request)[0], own)


class Guarantees(Case):

    def said_all(self, scene, *requests):
        """What these looks tell."""
        return [desk.said(scene, request) for request in requests]

    def test_behind_deeds(self):
        source = random.Random(424)
        keeping = some_keeping(424, 20)
        for scene in some_scenes(425, 50):
            show = with_text("like", desk.said(scene, "show"))
            lead = with_text("lead", numbers_by_rule("shuffle", source.choice(keeping)))
            eight = "eight " + " ".join(map(str, sorted(source.sample(LAMPS, 5))))
            right, counts, mends = self.said_all(scene, "right", "counts", "mends")
            for request in (lead, eight):
                self.assertEqual(desk.said(desk.scene_after(scene, request), "right"), right)
            for request in (lead, "home"):
                behind = desk.scene_after(scene, request)
                self.assertEqual(desk.said(behind, "counts"), counts)
                self.assertEqual(desk.said(behind, "mends").count(";"), mends.count(";"))
                self.assertEqual(desk.said(behind, show), "yes")
            own, reply = desk.worked((scene, (), ()), "mend")
            if mends.count(";") == 0:
                self.assertEqual(reply, "done")
                self.assertEqual(self.said_all(own[0], "right", "mends"), ["yes", "-"])
            else:
                self.assertEqual(mends.count(";"), 5)
                self.assert_same((own, reply), ((scene, (), ()), "refused NoWay"))

    def test_led_and_home_again(self):
        own, _ = desk.session(FIRST, with_text("lot", LOT_TEXT))
        for shuffle in (MIXED, SPIN, TURNED, LIFT):
            own, reply = desk.worked(own, with_text("lead", numbers_by_rule("shuffle", shuffle)))
            self.assertEqual(reply, "done")
        self.assert_same(own[0][1], done_behind(LIFT, done_behind(TURNED, done_behind(SPIN, MIXED))))
        self.assert_same(desk.scene_after(own[0], "home"), (EASY, LAMPS))

    def test_strange_requests(self):
        for thing in STRANGE:
            self.assertIs(desk.is_request(thing), False)


if __name__ == "__main__":
    unittest.main()
