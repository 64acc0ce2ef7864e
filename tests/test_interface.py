"""The interface: all that it lists is there, with the arguments that it lists, handed in by their places."""

import importlib
import inspect
import unittest

FUNCTIONS = {
    "days": "date_of(day) day_of(thing) weekday(day) month_of(day) first_of(month) month_length(month)",
    "daytexts": "show_day(day) read_day(text) show_time(time) read_time(text)",
    "clocks": "is_clock(thing) local(clock,moment) how_often(clock,time) moment_of(clock,time)",
    "rules": "is_rule(thing)",
    "ruledays": "days_of(rule,low,high) is_day(rule,day) place_of(rule,day) day_at(rule,place) last_day(rule)",
    "ruletexts": "show_rule(rule) read_rule(text)",
    "tellings": "is_telling(thing) told(telling,day) meetings(telling,low,high) moments(telling,low,high)"
                " with_change(telling,day,change)",
    "carrying": "carried(telling,clock,rule,place)",
    "letters": "is_letter(thing)",
    "tellingtexts": "show_telling(telling) read_telling(text)",
    "lettertexts": "show_letter(letter) read_letter(text) show_bundle(letters) read_bundle(text)",
    "agendas": "agenda(some,low,high) clashes(agenda)",
    "persons": "is_person(thing) bar(person,moment,length)",
    "free": "first_times(people,length,low,high,step,count) least_barred(people,length,low,high,step)",
}
CLASSES = {
    ("copies", "Copy(meeting)"): "take(letter) kept() version() newest() telling() over() lacking() joined(other)",
    ("books", "Book(meeting,telling,guests)"):
        "calls() tell(clock,rule,place) change(day,change) end() invite(guest) accept(guest,day) deny(guest,day) take(letter)"
        " version() telling() over() guests() at(version) lost() since(day) word(guest,day) offers()",
    ("seats", "Seat(meeting,guest,holder)"):
        "take(letter) version() newest() number() telling() over() kept() lacking() denied() answer(day,word) offer(day,slot)"
        " wish() joined(other)",
    ("post", "Post()"): "put(some) bring(number) never() again()",
    ("desk", "Desk()"): "say(row)",
}


def parted(text):
    """The name and the arguments of what is listed."""
    name, bracket, rest = text.partition("(")
    return name, [part for part in rest.rstrip(")").split(",") if part]


class Interface(unittest.TestCase):

    def has_arguments(self, thing, names, own):
        """Besides its object's, a function takes just these arguments."""
        found = list(inspect.signature(thing).parameters)
        self.assertEqual(found[own:], names, thing)

    def test_functions(self):
        for module, texts in FUNCTIONS.items():
            for name, arguments in map(parted, texts.split()):
                function = vars(importlib.import_module("guestcopies." + module))[name]
                self.assertEqual(function.__module__, "guestcopies." + module)
                self.has_arguments(function, arguments, 0)

    def test_classes_and_their_own_methods(self):
        for (module, made), texts in CLASSES.items():
            name, arguments = parted(made)
            kind = vars(importlib.import_module("guestcopies." + module))[name]
            self.has_arguments(vars(kind)["__init__"], arguments, 1)
            for method, parts in map(parted, texts.split()):
                self.has_arguments(vars(kind)[method], parts, 1)


if __name__ == "__main__":
    unittest.main()
