"""The interface: each name stands, as a def or class, in the file that lists it, with its arguments and fields."""

import ast
import unittest
from pathlib import Path

from pairmart.asks import Asking
from pairmart.markets import Market
from pairmart.ties import Strong, Tied
from pairmart.turns import Turn
from pairmart.wishes import Wish

PACKAGE = Path(__file__).resolve().parent.parent / "pairmart"

DEFS = {
    "wishes": """
        check_list(order, many); check_groups(groups, many); broken(groups, draw); group_ranks(groups);
        cut_after(order, one); moved_up(order, one); exchanged(order, place); all_orders(ones); all_lists(many);
        apart_of(one, other); majority(orders, one, other)""",
    "markets": """
        check_match(market, match); those_in(match, room); unwanted(market, match);
        would_take(market, match, room, asker); blocks(market, match); is_stable(market, match);
        settled(market, match, pair); ranks_of(market, match); as_good(market, one, other); filled(market, match)""",
    "asks": """
        ask_all(market); ask_in_turn(market, draws); trace(market); refusals(market); offer_all(market);
        offer(market, held, gone, room, asker); come_later(market, first, order); many_asks(market);
        by_blocks(market, match, draws, most=200)""",
    "papers": """
        stable_paper(market, match); why_not(market, match, asker, room); check_stable(market, match, paper);
        best_paper(market); check_best(market, match, paper); holds_by_right(market, gone, holder, room, asker);
        both_papers(market, match); check_both(market, match, papers); refused_by(market, asker);
        reach(market, asker)""",
    "turns": """
        next_room(market, match, asker); next_asker(market, match, asker); turns(market, match); turned(match, turn);
        all_stable(market); better_of(market, one, other); worse_of(market, one, other);
        must_be_stable(market, one, other); way_down(market); sure_pairs(market); can_pairs(market); middle(market);
        fairest(market); sum_of_ranks(market, match); is_above(market, one, other)""",
    "lies": """
        reached(market, asker); best_lie(market, asker); lists_of_lot(market, lot); lot_lie(market, lot);
        cut_lists(market, asker); room_lie(market, room); had_by(match, room); helped(market, asker, order);
        as_true(order, other, room)""",
    "fills": """
        seated(market); left_over(market); seats_taken(market); short_rooms(market); moves(market); is_only(market);
        waste(market, match); envy(market, match); more_seats(market, room, many)""",
    "ties": """
        some_weak(tied, draw); strongest(tied); gone_pairs(tied); check_none(tied, room)""",
}

CLASSES = {
    ("errors", "MarketFault"): "",
    ("errors", "BadWish"): "",
    ("errors", "BadRoom"): "",
    ("errors", "BadMatch"): "",
    ("errors", "BadPaper"): "",
    ("errors", "BadSize"): "",
    ("errors", "BadText"): "",
    ("errors", "BadStore"): "",
    ("errors", "NoSuch"): "",
    ("errors", "BadDeed"): "",
    ("wishes", "Wish"): """
        __init__(self, order); has(self, one); rank(self, one); better(self, one, other); ahead_of(self, one);
        worst(self, ones); best_of(self, ones, many)""",
    ("markets", "Market"): """
        __init__(self, lists, orders, seats); size(self); likes(self, asker, room); pairs(self);
        with_list(self, asker, order); with_order(self, room, order); with_seats(self, room, count); shown(self)""",
    ("asks", "Asking"): """
        __init__(self, market); wants(self, asker); ask(self, asker); go_on(self)""",
    ("turns", "Turn"): """
        __init__(self, askers, rooms); shown(self)""",
    ("ties", "Tied"): """
        __init__(self, lists, orders); likes(self, asker, room); wants(self, asker, room, match);
        room_has(self, room, match); prefers(self, room, asker, match, even); blocks(self, match, even);
        wanted(self, match); is_weak(self, match); is_strong(self, match); strict(self, draw)""",
    ("ties", "Strong"): """
        __init__(self, tied); drop(self, asker, room); holds(self, asker); ask(self, asker); go_on(self);
        still_asking(self); match(self)""",
}


def told_defs(body):
    """The defs of a file or class as name(arguments)."""
    return {f"{node.name}({ast.unparse(node.args)})" for node in body if isinstance(node, ast.FunctionDef)}


def asked_defs(text):
    """The defs that a text asks for."""
    return {one.strip() for one in text.split(";") if one.strip()}


class Interface(unittest.TestCase):

    def setUp(self):
        self.trees = {path.stem: ast.parse(path.read_text()) for path in PACKAGE.glob("*.py")}

    def test_defs_stand_in_their_files(self):
        for name, text in DEFS.items():
            self.assertLessEqual(asked_defs(text), told_defs(self.trees[name].body), name)

    def test_classes_stand_in_their_files_with_their_methods(self):
        for (name, told), text in CLASSES.items():
            found = [node for node in self.trees[name].body if isinstance(node, ast.ClassDef) and node.name == told]
            self.assertEqual(len(found), 1, told)
            self.assertLessEqual(asked_defs(text), told_defs(found[0].body), told)

    def test_fields_are_there_from_the_beginning(self):
        market = Market(((0,),), ((0,),), (1,))
        tied = Tied(((0,),), (((0,),),))
        for made, fields in (
            (Wish((0,)), ("order", "ranks")),
            (market, ("askers", "rooms", "seats")),
            (Asking(market), ("market", "next", "held", "steps")),
            (Turn((0, 1), (1, 0)), ("askers", "rooms")),
            (tied, ("lists", "orders", "ranks")),
            (Strong(tied), ("tied", "left", "inside", "asked", "gone")),
        ):
            self.assertLessEqual(set(fields), set(vars(made)))


if __name__ == "__main__":
    unittest.main()
