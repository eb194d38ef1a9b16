"""The interface: each class, method and function is defined in the very file under which it is listed."""

import ast
import unittest
from pathlib import Path

FOLDER = Path(__file__).resolve().parent.parent / "mastcalls"

# For each file its functions, and its classes with their arguments and methods.
FILES = {
    "errors": ["CallError:", "BadScene word:", "BadName name:", "BadCut place:", "BadText line word:"],
    "scenes": ["Call worth heard:", "Scene channels calls: order() rank(name) room(masts) masts_of(names)",
               "is_name(thing)", "wrong_seating(scene seating)"],
    "keeping": ["Seats scene: has_room(mast) add(name)", "Kept scene:", "kept(scene)", "is_seatable(scene names)",
                "holds_against(scene seating name lot)"],
    "moving": ["reseated(scene seating before)", "moves_of(seating before)", "prices_of(scene seating before)",
               "bound_by(scene lot before prices)"],
    "capacity": ["lacking(scene)", "with_channels(scene more)", "without(scene masts)", "worst_falls(scene most)",
                 "sure_calls(scene most)", "spare(scene mast)"],
    "cores": ["Core: do(deed) present() seats_now() ticks_of(call) epoch_of(call) value()", "core_of(deeds)"],
    "deeds": ["deed_line(deed)", "read_deed(text line)", "write_deeds(deeds)", "read_deeds(text)"],
    "journals": ["whole_line(number deed)", "deeds_in(text)", "Journal text: do(deed) sync() all_lists() fallen(cut)"],
    "masts": ["Mast name: take(number rows) fall() lead_up(call frame) lead_down(call epoch frame)"],
    "ends": ["End: put(word) frames() hear(epoch frame)"],
    "worlds": ["World: do(deed) sync() send_lists() speak(call is_phone word) send_phone(call masts) send_end(call) "
               "deliver(at is_kept) lose(at) mast_falls(mast) core_falls(cut) quiet(call)"],
    "shell": ["run_script(text)"],
    "maps": ["Map channels heard roads: next_zones(zone) reach(zone) up_masts(zone down) room(masts)"],
    "safety": ["Danger falls masts ways:", "danger_for(plan places most)", "shows(plan places most danger)",
               "is_way(plan way)", "greatest_load(plan most)"],
    "towns": ["Town plan most: begin(name zone) go(name zone) end(name) fall(mast) rise(mast) scene() is_safe()"],
    "townshell": ["write_map(plan)", "read_map(text)", "run_town(text)"],
    "buying": ["cheapest(scene prices)", "saved(scene prices)"],
    "tours": ["pieces_of(rows)", "covers(rows pieces)", "stops_of(rows)", "shows_many(rows stops)"],
    "parts": ["zones_of_parts(plan)", "parts_of(plan)", "danger_by_parts(plan places most)", "joined(one other roads)"],
    "keepers": ["Keeper number: kept() handle(letter) flush() fall(many)", "most_of(many)", "settled_at(keepers place)",
                "settled_row(keepers)"],
    "sequencers": ["Sequencer epoch many: to_send() hear(letter) add(entry) settled()"],
    "councils": ["Council many: begin(epoch) send(number) deliver(at is_kept) lose(at) flush(number) fall(number many) "
                 "stop(number) exchange(number up) settled()", "core_by(deeds)"],
    "patience": ["Patience core most: do(deed)"],
    "histories": ["told_by(deeds)", "history(deeds call)", "blame(deeds call)", "changed_without(deeds at)",
                  "lost_without(deeds at)", "gone_in(deeds)"],
    "townjournals": ["do_in(town deed)", "town_line(number deed)", "town_deeds(text)",
                     "TownJournal plan most text: do(deed) sync() fallen(cut)"],
    "alliances": ["lists_of(row)", "Alliance many: publish(number) deliver(at is_kept) lose(at) settled_core()"],
    "playing": ["standing_scene(plan places down)", "without_seat(plan places down)", "steps_of(places danger)",
                "play(plan places danger)", "first_lack(plan places danger)"],
    "crowderrors": ["TooMany most:"],
    "crowds": ["counts_of(plan places)", "is_standing(plan limits places)",
               "standings_from(plan limits counts most)", "CrowdDanger falls masts steps: __eq__(other)",
               "crowd_danger(plan limits places most standings)", "shows_crowd(plan limits places most danger)"],
    "gathering": ["are_both_ways(plan)", "quick_danger(plan limits places most)",
                  "CrowdTown plan limits most: begin(name zone) go(name zone) is_safe()"],
    "ranked": ["RankDanger falls masts ways extra: __eq__(other)", "danger_beside(plan places most extra)",
               "greatest_promise(plan places most)",
               "RankTown plan most extra: begin_urgent(name zone) begin(name zone) end(name) is_safe()"],
    "borders": ["check_homes(plan homes)", "view_of(plan homes at)",
                "Border plan homes mosts: begin(name zone) is_taken(name) go(name zone) end(name) send(at) "
                "deliver(at is_kept) lose(at) quiet() fall(mast) rise(mast) are_safe()"],
    "growing": ["with_more(plan more)", "is_enough(plan places most more)", "fewest_channels(plan places most)",
                "with_masts(plan sites masts)", "fewest_masts(plan places most sites)",
                "safe_sites(plan places most sites)"],
    "drawings": ["Site row column channels square: __eq__(other)",
                 "Drawing rows sites: __eq__(other) cells() hears(mast cell) deaf_cells()", "zone_of(cell)",
                 "map_of(drawing)", "read_drawing(text)", "write_drawing(drawing)", "heard_picture(drawing)"],
    "pacing": ["Pace delay losses: put(at word) tick(wishes) is_done()", "slowest(words delay losses)"],
}


def arguments(function):
    """The names of the arguments of a function, without that of the object."""
    return [arg.arg for arg in function.args.args if arg.arg != "self"]


def defined(tree):
    """A dict from the functions and classes of a file to their arguments, and from (class, method) likewise."""
    found = {}
    for node in tree.body:
        if isinstance(node, ast.FunctionDef):
            found[node.name] = arguments(node)
        if isinstance(node, ast.ClassDef):
            found[node.name] = []
            for part in node.body:
                if isinstance(part, ast.FunctionDef):
                    name = node.name if part.name == "__init__" else (node.name, part.name)
                    found[name] = arguments(part)
    return found


class InterfaceTest(unittest.TestCase):

    def test_all_is_defined_where_it_is_listed(self):
        for name, rows in FILES.items():
            found = defined(ast.parse((FOLDER / (name + ".py")).read_text()))
            for row in rows:
                if ":" not in row:
                    self.check(found, row, None)
                    continue
                head, methods = row.split(":")
                words = head.split()
                self.assertEqual(found[words[0]], words[1:], row)
                for method in methods.replace(") ", ")|").split("|"):
                    if method.strip():
                        self.check(found, method.strip(), words[0])

    def check(self, found, row, owner):
        name, rest = row.rstrip(")").split("(")
        self.assertEqual(found[name if owner is None else (owner, name)], rest.split(), (owner, row))

    def test_which_files_there_are(self):
        there = {path.stem for path in FOLDER.glob("*.py")}
        self.assertEqual(there, set(FILES) | {"__init__", "helpers"})
