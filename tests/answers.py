"""Answers that were written down once (tests/answers.txt), with what they were the answers to.

`python3 -m tests.answers` tells them anew, as the program gives them now. That is for the day on which something else is
to be asked, not for a day on which an answer has changed: the document tells what they have to be.
"""

import ast
import hashlib
import os

from oncestream.bags import row_rank
from oncestream.control import all_tasks, begin, hear, renewed
from oncestream.control import played as played_by_control
from oncestream.desk import Desk
from oncestream.house import House
from oncestream.planner import planned
from oncestream.queries import sources_of
from oncestream.scripts import event_text, row_text
from oncestream.texts import read_query
from oncestream.world import after, calm, judge_world, late_outside, new_world, played, told_outside, unsettled
from tests.makers import ANYTHING, a_draw
from tests.scripting import INNER, KEEPS, a_case, a_part, all_feeds, an_event, calm_event, some_workers

PATH = os.path.join(os.path.dirname(__file__), "answers.txt")

# The three inputs of which it was told that their answers come late.
ALONE, ALONE_WORKERS = read_query("a: source n number\nout a"), (("a", 2), ("out", 2))
SMALL, SMALL_WORKERS = read_query("a: source n number\nb: sum a by - in even 10 with c = sum n\nout b"), (("a", 2), ("b", 2), ("out", 2))
ENTRIES = [("row", time, 1 if time % 5 else -1, (7 * time % 11,)) for time in range(58)] + [("mark", 50), ("mark", 45)]
FEEDS = [("feed", "a", number % 2, entry) for number, entry in enumerate(ENTRIES)]

FOUR = read_query("""a: source k text, n number
b: source k text, n number
c: source k text, n number
d: source k text, n number
e: both a b
f: sum e by k in even 10 with m = sum n, g = count 1
g: make f with k = k, m = (m + g)
h: join g c by k back 30 ahead 30
i: sum d by k in session 3 with s = count 1
j: make i with k = k, s = s
l: join h j by k back 40 ahead 40
out l""")
FOUR_PARTS = {"a": 2, "b": 2, "c": 1, "d": 1}


def ordered(value):
    """A value in which each dict is the list of its pairs, ascending by their texts."""
    if isinstance(value, dict):
        return sorted([(ordered(key), ordered(one)) for key, one in value.items()], key=repr)
    return type(value)(ordered(one) for one in value) if isinstance(value, (list, tuple)) else value


def digest(value):
    """What a whole value is known by."""
    return hashlib.sha256(repr(ordered(value)).encode()).hexdigest()[:24]


def bag_list(bag):
    """The ascending pairs of a bag."""
    return [(row, bag[row]) for row in sorted(bag, key=row_rank)]


def world_answer(world):
    """What is written down of a world: its disk, its letters, what is told outside, and what the rest is known by."""
    late = {name: bag_list(late_outside(world, name)) for name in sources_of(world["plan"])}
    return {"disk": world["disk"], "air": world["air"], "told": bag_list(told_outside(world)), "late": late, "cuts": world["cuts"],
            "due": bag_list(unsettled(world)), "right": judge_world(world), "whole": digest(world)}


def script_answer(plan, parts, workers, room, script):
    """What comes of a script, of a calm run behind it, and of a house to which the same is done."""
    world = played(new_world(plan, parts, workers, room), script)
    calmed, many = calm(world)
    return {**world_answer(world), "many": many, "calm told": bag_list(told_outside(calmed)), "calm cuts": calmed["cuts"], "calm whole": digest(calmed)}


def house_answer(plan, parts, workers, room, deeds):
    """What a house shows behind deeds, "undo" and "redo" among them, each time when nothing is left to be taken back or done again."""
    house, shown = House(plan, parts, workers, room), []
    for deed in deeds:
        if deed in ("undo", "redo"):
            shown.append(house.undo() if deed == "undo" else house.redo())
        else:
            shown.append(house.do(deed))
        shown.append((house.stand(), digest((house.world(), house.tasks(), house.deeds()))))
    return {"shown": shown, "outside": house.outside(), "due": house.due(), "late": house.late(), "whole": digest(house.world())}


def desk_answer(query, parts, workers, room, lines):
    """What a desk says to lines."""
    desk = Desk(query, parts, workers, room)
    return {"said": [desk.say(line) for line in lines], "disk": desk.house().world()["disk"], "whole": digest(desk.house().world())}


def control_answer(query, workers, happenings):
    """What comes of happenings."""
    control, disk, sent = played_by_control(query, workers, happenings)
    return {"control": [(field, control[field]) for field in control if field != "query"], "disk": disk, "sent": sent, "whole": digest((control, disk, sent))}


def calm_answer(plan, parts, workers, room, script):
    """The world behind a calm run, whole."""
    world, many = calm(played(new_world(plan, parts, workers, room), script))
    return {"many": many, "world": world}


def played_answer(plan, parts, workers, room, script):
    """The world behind a script, whole."""
    return {"world": played(new_world(plan, parts, workers, room), script)}


ANSWERS = {"control": control_answer, "played": played_answer, "calm": calm_answer, "script": script_answer, "house": house_answer, "desk": desk_answer}


# What is drawn.


def a_letter(draw, control, tasks):
    """A letter to control, mostly one that it waits for."""
    chance, n = draw.random(), control["last"] + 1
    if chance < 0.8 and control["phase"] == "barrier":
        word = "kept" if len(control["kept"]) < len(tasks) and draw.random() < 0.6 else "held"
        return (word, control["epoch"], n, draw.choice([task for task in tasks if task not in control[word]] or tasks))
    if chance < 0.8 and control["phase"] != "run":
        return ("done", control["last"]) if control["phase"] == "commit" else ("dropped", control["epoch"])
    if chance > 0.95:
        return draw.choice(ANYTHING)
    word, epoch = draw.choice(("kept", "held", "done", "dropped")), max(0, control["epoch"] + draw.choice((0, 0, -1, 1)))
    if word in ("kept", "held"):
        return (word, epoch, max(0, n + draw.choice((0, 0, -1, 1))), draw.choice(tasks))
    return (word, epoch if word == "dropped" else control["last"] + draw.choice((0, 1)))


def a_happening(draw, control, query, bad):
    """A happening; of a letter to be heard the word alone."""
    if draw.random() * 100 >= bad:
        if control["phase"] == "run":
            return draw.choice((("begin",), ("begin",), ("again",), ("hear",)))
        return ("hear",) if draw.random() < 0.9 else draw.choice((("begin",), ("again",)))
    word = draw.choice(("renew", "renew", "stop", "torn", "torn", "torn"))
    if word == "torn":
        return ("torn", draw.choice((("begin",), ("hear",), ("hear",), ("hear",), ("renew", some_workers(draw, query, 2)))), draw.choice(KEEPS))
    return ("renew", some_workers(draw, query, 2)) if word == "renew" else (word,)


def behind(control, happening):
    """Control behind a happening; what is torn is drawn as if nothing of it reached the disk."""
    if happening[0] in ("begin", "again"):
        return begin(control)[0] if happening[0] == "begin" else control
    if happening[0] == "hear":
        return hear(control, happening[1])[0]
    if happening[0] == "renew":
        return renewed(control, happening[1])[0]
    return {**renewed(control, control["workers"])[0], "phase": "commit" if control["last"] else "drop"}


def some_happenings(draw):
    """A query, workers and happenings."""
    query = a_case(draw)[draw.choice((0, 1))]
    workers, found = some_workers(draw, query, 2), []
    control, bad, many = played_by_control(query, workers, [])[0], draw.choice((1, 3, 6, 20, 60)), draw.choice((40, 50, 60, 60, 80, 200))
    while len(found) < many:
        tasks = all_tasks(query, control["workers"])
        happening = a_happening(draw, control, query, bad)
        if happening[0] == "hear":
            happening = ("hear", a_letter(draw, control, tasks))
        elif happening[0] == "torn" and happening[1] == ("hear",):
            happening = ("torn", ("hear", a_letter(draw, control, tasks)), happening[2])
        control = behind(control, happening)
        found.append(happening)
    return query, workers, found


def some_arguments(draw, four, is_planned):
    """A query, or perhaps a plan of it, its parts, workers, room, and the events that feed it."""
    if four:
        plan, parts = planned(FOUR)[0] if is_planned else FOUR, FOUR_PARTS
        fed = {name: tuple(a_part(draw, dict(FOUR)[name][1], 10) + (("mark", 40),) for _ in range(parts[name])) for name in parts}
    else:
        query, plan, fed = a_case(draw)
        plan, parts = plan if is_planned else query, {name: len(fed[name]) for name in fed}
    return plan, parts, some_workers(draw, plan, draw.choice((1, 2, 2, 4))), draw.choice((1, 2, 3, 8)), all_feeds(draw, fed)


def any_event(draw, world, feeds, bad):
    """An event, each word as likely as any other one."""
    word, k = draw.choice(("feed", "read", "move", "begin", "again", "hear", "lose", "double", "fall", "stop", "workers", "torn")), draw.randrange(10 ** 6)
    if word == "torn":
        word = draw.choice(INNER + ("feed", "hear"))
        return ("torn", any_of(draw, world, feeds, word, k), draw.choice(KEEPS))
    return any_of(draw, world, feeds, word, k)


def steady_event(draw, world, feeds, bad):
    """What comes next in a calm run, but that things fall now and then: bad tells how often, of a thousand."""
    chance = draw.randrange(1000)
    if chance < bad:
        return any_event(draw, world, feeds, bad)
    if chance > 850:
        return feeds.pop(0) if feeds else (draw.choice(("hear", "move", "read")), draw.randrange(10 ** 6))
    return calm_event(world) or (feeds.pop(0) if feeds else ("begin",))


def any_of(draw, world, feeds, word, k):
    """An event with this word; another one where nothing is left to be fed."""
    if word == "feed":
        return feeds.pop(0) if feeds else ("move", k)
    if word == "workers":
        return ("workers", some_workers(draw, world["plan"]))
    return (word,) if word in ("begin", "again", "fall", "stop") else (word, k)


def some_events(draw, number):
    """The arguments of a world, and a script."""
    four, next_event = number % 5 == 0, (any_event, an_event, steady_event)[number % 3]
    plan, parts, workers, room, feeds = some_arguments(draw, four, number % 10 > 0)
    world, script = new_world(plan, parts, workers, room), []
    length, bad = 300 if next_event == steady_event else draw.choice((60, 150, 300)), draw.choice((3, 10, 30, 100))
    while len(script) < length:
        script.append(feeds.pop(0) if feeds and draw.random() < 0.15 else next_event(draw, world, feeds, bad))
        world = after(world, script[-1])
    return plan, parts, workers, room, script


def some_deeds(draw, texts):
    """The arguments of a house, and deeds or, as texts, lines."""
    query, parts, workers, room, feeds = some_arguments(draw, draw.random() < 0.2, False)
    house, deeds, undone, next_event = House(query, parts, workers, room), [], 0, draw.choice((an_event, steady_event))
    for _ in range(draw.choice((50, 100))):
        chance = draw.random()
        if chance < 0.1 and house.deeds():
            deeds.append("undo")
            house.undo()
            undone += 1
        elif chance < 0.25 and undone:
            deeds.append("redo")
            house.redo()
            undone -= 1
        else:
            deeds.append(("calm",) if chance > 0.95 else feeds.pop(0) if feeds and chance > 0.75 else next_event(draw, house.world(), feeds, 120))
            house.do(deeds[-1])
            undone = 0
    if not texts:
        return query, parts, workers, room, deeds
    lines = []
    for deed in deeds:
        lines.append(deed if isinstance(deed, str) else "calm" if deed == ("calm",) else event_text(deed))
        if draw.random() < 0.3:
            lines.append(draw.choice(("outside", "due", "late", "tasks", "stand", "right", "query", "what", "feed x 0 mark 1")))
    lines += ["why " + row_text(row) for row, _ in house.outside()[:3]] + ["outside", "due", "late", "tasks", "stand", "right"]
    return query, parts, workers, room, lines


def cases():
    """All that is asked: the triples (number, word, arguments)."""
    small = (SMALL, {"a": 2}, SMALL_WORKERS, 2)
    found = [("control", (ALONE, ALONE_WORKERS, [("renew", ALONE_WORKERS)] * 200)), ("played", small + ([("fall",)] * 300,)), ("calm", small + (FEEDS,))]
    found += [("control", (ALONE, ALONE_WORKERS, [("again",)] * 200))]
    draw = a_draw(1412)
    found += [("control", some_happenings(draw)) for _ in range(55)]
    found += [("script", some_events(draw, number)) for number in range(60)]
    found += [("house", some_deeds(draw, False)) for _ in range(15)] + [("desk", some_deeds(draw, True)) for _ in range(15)]
    return [(number, word, arguments) for number, (word, arguments) in enumerate(found)]


def told(word, arguments):
    """The answer."""
    return ANSWERS[word](*arguments)


def written_down():
    """What was written down: the list of (number, word, arguments, answer)."""
    with open(PATH, encoding="utf-8") as lines:
        return [ast.literal_eval(line) for line in lines]


if __name__ == "__main__":
    with open(PATH, "w", encoding="utf-8") as file:
        for number, word, arguments in cases():
            file.write(repr((number, word, arguments, told(word, arguments))) + "\n")
