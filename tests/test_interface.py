"""Whether everything has its name, its place and its parameters as the interface lists them."""

import importlib
import inspect
import unittest

FUNCTIONS = {
    "words": ["is_name(value)", "is_cell(value)", "is_place(value)", "is_number(value, least, most)",
              "number_in(text)"],
    "winds": ["is_wind(value)", "moved_cell(cell, direction)"],
    "charttexts": ["chart_rows_text(rows, winds, top)", "read_parts(text)"],
    "losses": ["losses_from(chart, place)", "losses_to(chart, region)", "least_loss(chart, place, region)",
               "least_path(chart, place, region)", "path_loss(chart, path)"],
    "fronts": ["front_at(sky, hour, heights)", "front_walk(sky)"],
    "mirrors": ["mirrored(chart, how)", "mirrored_place(chart, place, how)", "mirrored_sky(sky, how)",
                "delayed(chart, wind)", "delayed_sky(sky, wind)", "times(chart, factor)"],
    "placetexts": ["place_text(place)", "region_text(region)", "read_place(text)", "read_region(text)"],
    "sayings": ["at_most(region, limit, *, gauge=None)", "at_least(region, amount, *, gauge=None)",
                "exactly(region, limit, *, gauge=None)", "under(region, other, more, *, gauge=None)",
                "level(region, other, more, *, gauge=None)", "if_then(region, amount, other, least, *, gauge=None)",
                "squall_most(place, limit, *, gauge=None)", "squall_least(place, amount, *, gauge=None)"],
    "sayingtexts": ["read_saying(text)", "read_sayings(text)"],
    "lowering": ["limit_at(sky, ceiling)", "is_broken(sky, ceiling)", "lowered(sky, ceiling, limit)",
                 "is_forced(sky, ceiling, limit)"],
    "logs": ["followed_log(lot, lines)", "log_walk(lot, lines)"],
    "papers": ["is_paper(lot, value)", "short_paper(lot, paper)", "is_short(lot, paper)"],
    "papertexts": ["paper_text(paper)", "read_paper(chart, text)"],
    "verdicts": ["verdict(lot, saying)", "kept_and_broken(lot, saying)", "can_be_with(lot, *sayings)",
                 "escape(lot, *sayings)", "one_is_sure(lot, *sayings)"],
    "certificates": ["certificate(lot, saying)", "is_certificate(lot, saying, value)"],
    "cores": ["core(lot)", "is_core(lot, value)", "needless(lot)", "least_lot(lot)", "is_stronger(lot, other)",
              "are_alike(lot, other)", "parting_sky(lot, other)"],
    "forecasts": ["greatest_height(lot, region)", "least_height(lot, region)", "height_span(lot, region)",
                  "possible_heights(lot, region)", "skipped_heights(lot, region)", "sky_for(lot, region, number)",
                  "forecast_rows(lot, hour)"],
    "causes": ["is_cause(sky, place, region, amount)", "possible_causes(lot, region, amount)",
               "sure_causes(lot, region, amount)", "surely_among(lot, region, amount, places)", "choices(lot, region)",
               "least_by_choices(lot, region)"],
    "thinning": ["is_thin(lot, sky)", "thinned(lot, sky)"],
    "stations": ["check_stations(chart, stations)", "settles(lot, station, saying)",
                 "open_readings(lot, station, saying)", "is_silent(lot, station)",
                 "best_station(lot, stations, saying)"],
    "plans": ["find_plan(lot, stations, saying, *, most=2)", "is_plan(lot, stations, saying, value)",
              "plan_depth(plan)", "followed_plan(plan, stations, sky)"],
    "trips": ["check_way(chart, way)", "is_way(trip, value)", "ways(trip)", "many_ways(trip)"],
    "promises": ["roughness(sky, way, *, by='greatest')", "calmest(lot, trip, *, by='greatest')",
                 "earliest(lot, trip, bar)", "surely_calm(lot, way, bar)", "possibly_calm(lot, way, bar)",
                 "ship_log(sky, way, *, gauge=None)"],
    "barriers": ["barrier(lot, trip, bar)", "is_barrier(lot, trip, bar, value)"],
    "gauges": ["gauges(lot)", "without_gauges(lot, names)", "fewest_false(lot)"],
    "hedges": ["blind_promise(doubt, trip)", "seeing_promise(doubt, trip)", "informed_promise(doubt, trip, hour)",
               "worth_of_seeing(doubt, trip)"],
    "officetexts": ["write_office(office)", "read_office(text)"],
}
METHODS = {
    ("charts", "Chart"): [
        "__init__(self, rows, winds=(), *, top=9)", "rows(self)", "winds(self)", "cells(self)", "drag(self, cell)",
        "places(self)", "neighbours(self, cell)", "steps_from(self, place)", "steps_to(self, place)", "text(self)",
        "read(text)", "__str__(self)", "__contains__(self, x)", "__eq__(self, other)", "__len__(self)",
        "__repr__(self)"],
    ("skies", "Sky"): [
        "__init__(self, chart, squalls=())", "squall(self, place)", "height(self, place)",
        "region_height(self, region)",
        "squalls(self)", "heights(self)", "with_squall(self, place, number)", "full(chart)", "is_below(self, other)",
        "__getitem__(self, at)", "__or__(self, other)", "__eq__(self, other)", "__len__(self)", "__bool__(self)",
        "__repr__(self)"],
    ("fronts", "Front"): [
        "__init__(self, sky)", "hour(self)", "heights(self)", "forward(self)", "twin(self)", "__repr__(self)"],
    ("sayings", "Saying"): [
        "numbers(self)", "regions(self)", "parts(self)", "opposites(self)", "is_simple(self)", "is_ceiling(self)",
        "is_floor(self)", "is_plain(self)", "kept_by(self, sky)", "with_gauge(self, gauge)", "moved(self, chart, how)",
        "text(self)", "__str__(self)", "__eq__(self, other)", "__repr__(self)"],
    ("lots", "Lot"): [
        "__init__(self, chart, sayings=())", "sky(self)", "can_be(self)", "begun(self)", "put(self, *sayings)",
        "take_back(self, at)", "sayings(self)", "parts(self)", "broken(self)", "keeps(self, sky)", "is_plain(self)",
        "lines(self)", "paper(self)", "with_sayings(self, sayings)", "twin(self)", "text(self)", "read(chart, text)",
        "__str__(self)", "__contains__(self, x)", "__eq__(self, other)", "__len__(self)", "__bool__(self)",
        "__repr__(self)"],
    ("trips", "Trip"): [
        "__init__(self, chart, start, goal, *, first=0, last=None)", "next_places(self, place)",
        "may_be(self, place)"],
    ("trips", "GuardedTrip"): [
        "__init__(self, chart, start, goal, forbidden, *, first=0, last=None)", "forbidden(self)",
        "next_places(self, place)", "may_be(self, place)"],
    ("voyages", "Voyage"): [
        "__init__(self, lot, trip, *, by='greatest')", "promise(self)", "position(self)", "way(self)", "done(self)",
        "lot(self)", "hear(self, *sayings)", "sail(self, *sayings)", "twin(self)", "__repr__(self)"],
    ("doubts", "Doubt"): [
        "__init__(self, lot, *, allowed=1)", "allowed(self)", "can_be(self)", "change(self, allowed)", "lot(self)",
        "cases(self)", "case_lot(self, names)", "case_sky(self, names)", "put(self, *sayings)", "take_back(self, at)",
        "verdict(self, saying)", "height_span(self, region)", "worst_heights(self)", "surely_false(self, gauge)",
        "twin(self)", "__len__(self)", "__bool__(self)", "__repr__(self)"],
    ("office", "Office"): [
        "__init__(self, chart)", "do(self, *deeds)", "undo(self)", "redo(self)", "history(self)", "open_draft(self)",
        "keep_draft(self)", "give_up(self)", "depth(self)", "busy(self)", "tried(self, *deeds)", "now(self)",
        "lot(self)", "standing(self)", "watched(self)", "verdicts(self)", "bulletins(self)", "known_lot(self, hour)",
        "journal(self)", "text(self)", "say(self, line)", "__call__(self, line)", "log(self)", "twin(self)",
        "__eq__(self, other)", "__len__(self)", "__bool__(self)", "__repr__(self)"],
}
STATIC = ["read(text)", "full(chart)", "read(chart, text)"]
# The properties of the classes that have some; all but one are only read.
PROPERTIES = {"Front": ["hour"], "Lot": ["sky", "can_be", "begun"], "Voyage": ["promise", "position"],
              "Doubt": ["allowed", "can_be"], "Office": ["depth", "busy", "now"]}
GENERATORS = [("fronts", "front_walk"), ("logs", "log_walk"), ("forecasts", "forecast_rows"), ("trips", "ways")]


def written(found):
    """The name and the parameters of a function, a method or the getter of a property."""
    return f"{found.__name__}{inspect.signature(found)}"


class Interface(unittest.TestCase):
    def test_functions(self):
        for module, wanted in FUNCTIONS.items():
            home = importlib.import_module(f"highestsky.{module}")
            for text in wanted:
                found = getattr(home, text.split("(")[0])
                self.assertEqual([written(found), found.__module__], [text, home.__name__])

    def test_methods(self):
        for (module, name), wanted in METHODS.items():
            home = importlib.import_module(f"highestsky.{module}")
            kind = getattr(home, name)
            self.assertEqual(kind.__module__, home.__name__)
            for text in wanted:
                found = vars(kind)[text.split("(")[0]]
                self.assertEqual(isinstance(found, staticmethod), text in STATIC)
                if isinstance(found, property):
                    found = found.fget
                self.assertEqual(written(getattr(found, "__func__", found)), text)

    def test_properties(self):
        for module, name in METHODS:
            kind = getattr(importlib.import_module(f"highestsky.{module}"), name)
            found = [word for word, part in vars(kind).items() if isinstance(part, property)]
            self.assertEqual(found, PROPERTIES.get(name, []))
            assigned = [word for word in found if vars(kind)[word].fset is not None]
            self.assertEqual(assigned, ["allowed"] if name == "Doubt" else [])

    def test_bases(self):
        bases = {name: getattr(importlib.import_module(f"highestsky.{module}"), name).__bases__ for module,
                 name in METHODS}
        trip = importlib.import_module("highestsky.trips").Trip
        self.assertEqual(bases.pop("GuardedTrip"), (trip,))
        self.assertEqual(set(bases.values()), {(object,)})

    def test_generators(self):
        for module, wanted in FUNCTIONS.items():
            home = importlib.import_module(f"highestsky.{module}")
            for text in wanted:
                name = text.split("(")[0]
                self.assertEqual(inspect.isgeneratorfunction(getattr(home, name)), (module, name) in GENERATORS)
