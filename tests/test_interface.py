"""The names and arguments that the document's interface asks for, as they stand there."""

import importlib
import inspect
import unittest

ASKED = {
    "wishes": "is_letter(thing) is_wish(thing) has_letter(wish,letter) covers(one,other) in_common(one,other)"
              " letters_of(wish) roof_of(wishes)",
    "together": "covered(wishes,wish) is_cuts(wishes,wish,tree) spare_of(wishes)",
    "fewest": "fewest_of(wishes) is_fewest(wishes,thing)",
    "webs": "is_web(thing) neighbours_of(web,house) way_between(web,one,other) houses_behind(web,house,neighbour)",
    "tables": "short_of(how,wishes) table_of(web,holds,how,house,neighbour) led_by(web,holds,how,house,letter)"
              " chain_to(web,holds,how,house,letter,number)",
    "town": "Town(many,fields,how)",
    "logs": "judged(how,log) what_next(how,log)",
    "stretches": "few_of(stretches,many,counts) is_few(stretches,many,counts,thing)",
    "texts": "show_letter(letter) show_wish(wish) show_web(web) read_letter(text) read_wish(text) read_web(text)",
    "desk": "Desk()",
}
METHODS = ("join(one,other) cut(one,other) fall(house) back(number) wish(house,wish) send(house,letter) step(one,other)"
           " roads() holds() heard(house,neighbour) under_way(one,other) waiting() given(number) counts() log(house)")


def asked_of(text):
    for one in text.split():
        name, arguments = one.rstrip(")").split("(")
        yield name, [argument for argument in arguments.split(",") if argument]


class Interface(unittest.TestCase):
    def test_functions_and_classes(self):
        for name, text in ASKED.items():
            module = importlib.import_module("roofpost." + name)
            for function, arguments in asked_of(text):
                told = list(inspect.signature(getattr(module, function)).parameters)
                self.assertEqual(told, arguments, function)

    def test_functions_of_a_town(self):
        town = importlib.import_module("roofpost.town").Town(2, 1, "roof")
        for function, arguments in asked_of(METHODS):
            told = list(inspect.signature(getattr(town, function)).parameters)
            self.assertEqual(told, arguments, function)

    def test_functions_of_a_desk(self):
        desk = importlib.import_module("roofpost.desk").Desk()
        self.assertEqual(list(inspect.signature(desk.say).parameters), ["row"])


if __name__ == "__main__":
    unittest.main()
