"""The interface: each name stands, as a def or class, in the file that lists it, with its arguments and fields."""

import ast
import unittest
from pathlib import Path

from pairmart.asks import Asking
from pairmart.blossoms import Forest, Friends
from pairmart.books import Book, Deed
from pairmart.covers import Links
from pairmart.days import Fair
from pairmart.eatings import Meal, Part
from pairmart.flows import Pipes, Wants
from pairmart.kept import Keeper, KeptMarket
from pairmart.liked import Votes
from pairmart.markets import Market
from pairmart.mates import Table
from pairmart.sessions import Session
from pairmart.terms import Deals
from pairmart.ties import Strong, Tied
from pairmart.turns import Turn
from pairmart.wishes import Wish
from pairmart.worths import Search

PACKAGE = Path(__file__).resolve().parent.parent / "pairmart"

DEFS = {
    "wishes": """
        check_list(order, many); check_groups(groups, many); broken(groups, draw); group_ranks(groups);
        cut_after(order, one); moved_up(order, one); exchanged(order, place); all_orders(ones); all_lists(many);
        apart_of(one, other); majority(orders, one, other)""",
    "markets": """
        check_match(market, match); those_in(match, room); unwanted(market, match);
        would_take(market, match, room, asker); blocks(market, match); is_stable(market, match);
        settled(market, match, pair); ranks_of(market, match); as_good(market, one, other); filled(market, match)""",
    "asks": """
        ask_all(market); ask_in_turn(market, draws); trace(market); refusals(market); offer_all(market);
        offer(market, held, gone, room, asker); come_later(market, first, order); many_asks(market);
        by_blocks(market, match, draws, most=200)""",
    "papers": """
        stable_paper(market, match); why_not(market, match, asker, room); check_stable(market, match, paper);
        best_paper(market); check_best(market, match, paper); holds_by_right(market, gone, holder, room, asker);
        both_papers(market, match); check_both(market, match, papers); refused_by(market, asker);
        reach(market, asker)""",
    "turns": """
        next_room(market, match, asker); next_asker(market, match, asker); turns(market, match); turned(match, turn);
        all_stable(market); better_of(market, one, other); worse_of(market, one, other);
        must_be_stable(market, one, other); way_down(market); sure_pairs(market); can_pairs(market); middle(market);
        fairest(market); sum_of_ranks(market, match); is_above(market, one, other)""",
    "lies": """
        reached(market, asker); best_lie(market, asker); lists_of_lot(market, lot); lot_lie(market, lot);
        cut_lists(market, asker); room_lie(market, room); had_by(match, room); helped(market, asker, order);
        as_true(order, other, room)""",
    "fills": """
        seated(market); left_over(market); seats_taken(market); short_rooms(market); moves(market); is_only(market);
        waste(market, match); envy(market, match); more_seats(market, room, many)""",
    "ties": """
        some_weak(tied, draw); strongest(tied); gone_pairs(tied); check_none(tied, room)""",
    "circles": """
        check_lists(lists); circle_from(points, start); rounds(lists); exchanged_by(rings, many); trade(lists);
        gains(lists, got, lot); all_ways(things); is_firm(lists, got); power_of_two(many); paper(lists);
        check_paper(lists, got, rings); improved(lists, got); in_turn(lists, order); turn_for(lists, got)""",
    "covers": """
        move_along(owner, came, other, start); count_pairs(pairs); check_pairs(links, pairs, cover);
        check_short(links, lot); all_paired(links)""",
    "worths": """
        check_worths(rows); best_pairs(rows); worth_of(rows, pairs); greatest(rows);
        check_worth(rows, pairs, gains, prices); without_row(rows, row); without_column(rows, column);
        adds(rows, row); column_adds(rows, column)""",
    "prices": """
        wanted_at(worths, prices); may_have(worths, prices); are_content(rows, prices, pairs);
        can_be_content(rows, prices); least_prices(rows); over_wanted(rows, prices); things_of(links, lot);
        rise(rows, most=500); lower_of(one, other); higher_of(one, other); gain_by(rows, row, told);
        check_least(rows, prices, pairs)""",
    "blossoms": """
        pair_up(near); most_pairs(friends); pairs_without(friends, gone); hard_lot(friends); parts(near);
        odd_parts(friends, gone); check_mates(friends, mates, lot); with_papers(friends)""",
    "mates": """
        search(lists); pair_off(lists); steps_of(lists); blocking(lists, mates); are_mates(lists, mates);
        is_settled(lists, mates); check_steps(lists, steps); check_ask(table, step); check_ring(table, ring)""",
    "eatings": """
        shared(one, other); shares(lists, many); times(lists, many); sums_down(order, row); as_much(order, one, other);
        wanted_more(lists, rows); is_tight(lists, rows); whole_of(rows, thing)""",
    "draws": """
        check_square(rows); parted(rows); added(lots, many); drawn(lots, number); to_square(rows, things);
        given_by(pairs, many, things); common(one, other)""",
    "goods": """
        check_rows(rows); worth(row, things); envies(rows, lots, one, other); is_calm(rows, lots);
        but_one(rows, lots); enviers(rows, lots); ring_of(backs); passed(lots, ring); share(rows);
        in_rounds(rows, order); all_given(rows, lots); least_worth(rows, lots); put_on(sums, place, much);
        fair_part(rows, one)""",
    "flows": """
        laid(wants, least); pairs_of(wants, pipes); most(wants); most_cut(wants); cut_worth(wants, cut);
        with_least(wants); short_cut(wants); keeps(wants, pairs); check_cut(wants, cut)""",
    "kept": """
        is_steady(keeper, ones, kinds, gone); kept_taken(keeper, match_inside, kinds)""",
    "terms": """
        plain_deals(market); as_match(deals, taken)""",
    "liked": """
        most_liked(lists, many); raised(votes, given); vote(lists, one, other); is_giving(lists, given);
        by_choices(lists, many, given); check_lot(lists, many, lot)""",
    "profiles": """
        profile(lists, given); weights(count, base, up); by_weights(lists, many, weight); most_firsts(lists, many);
        fewest_lasts(lists, many); least_sum(lists, many); reversed_profile(lists, given); sum_of_places(lists, given);
        how_many(given)""",
    "days": "check_words(words)",
    "texts": """
        is_word(word); is_count(word); words_of(line); all_words(words); read_row(fair, line); read(text); told(fair);
        told_match(fair); read_groups(text); told_groups(groups)""",
    "books": """
        figure_of(text); read_deed(line); row_deed(line, number); deeds_of(text); done_again(text); stages(text);
        undone(book, many)""",
    "sessions": """
        told_change(change); rows_of(text); all_said(lines); is_fault(error); faults(answers); refuse(word)""",
}

VALUES = {
    "turns": {"MOST": 500},
    "eatings": {"NONE": (0, 1)},
    "texts": {
        "SMALL": "abcdefghijklmnopqrstuvwxyz", "INNER": "abcdefghijklmnopqrstuvwxyz0123456789_",
        "FIGURES": "0123456789", "MOST_FIGURES": 6,
    },
    "books": {"BASE": 9973, "WIDE": 2000003},
}

CLASSES = {
    ("errors", "MarketFault"): "",
    ("errors", "BadWish"): "",
    ("errors", "BadRoom"): "",
    ("errors", "BadMatch"): "",
    ("errors", "BadPaper"): "",
    ("errors", "BadSize"): "",
    ("errors", "BadText"): "",
    ("errors", "BadStore"): "",
    ("errors", "NoSuch"): "",
    ("errors", "BadDeed"): "",
    ("wishes", "Wish"): """
        __init__(self, order); has(self, one); rank(self, one); better(self, one, other); ahead_of(self, one);
        worst(self, ones); best_of(self, ones, many)""",
    ("markets", "Market"): """
        __init__(self, lists, orders, seats); size(self); likes(self, asker, room); pairs(self);
        with_list(self, asker, order); with_order(self, room, order); with_seats(self, room, count); shown(self)""",
    ("asks", "Asking"): """
        __init__(self, market); wants(self, asker); ask(self, asker); go_on(self)""",
    ("turns", "Turn"): """
        __init__(self, askers, rooms); shown(self)""",
    ("ties", "Tied"): """
        __init__(self, lists, orders); likes(self, asker, room); wants(self, asker, room, match);
        room_has(self, room, match); prefers(self, room, asker, match, even); blocks(self, match, even);
        wanted(self, match); is_weak(self, match); is_strong(self, match); strict(self, draw)""",
    ("ties", "Strong"): """
        __init__(self, tied); drop(self, asker, room); holds(self, asker); ask(self, asker); go_on(self);
        still_asking(self); match(self)""",
    ("covers", "Links"): """
        __init__(self, rows, many); most_pairs(self); lengthen(self, owner, start); reached(self, pairs);
        cover(self); short_lot(self)""",
    ("worths", "Search"): """
        __init__(self, rows); put_in(self, row); look(self, here, column, used, best, came);
        shift(self, row, used, best, step)""",
    ("blossoms", "Friends"): """
        __init__(self, many, links); without(self, gone)""",
    ("blossoms", "Forest"): """
        __init__(self, near, mates); begin(self, start); up(self, one); meet(self, one, other);
        mark(self, one, base, child, blossom); draw_in(self, one, other); search(self, start); turn_over(self, end)""",
    ("mates", "Table"): """
        __init__(self, lists); drop(self, one, other); cut_behind(self, one, other); ask_round(self); ring(self);
        turn(self, ring); is_even(self); is_bare(self, had)""",
    ("eatings", "Part"): """
        __init__(self, top, low); plus(self, other); minus(self, other); over(self, number); below(self, other);
        shown(self)""",
    ("eatings", "Meal"): """
        __init__(self, lists, many); bite(self, one); eaters(self); eat(self)""",
    ("flows", "Pipes"): """
        __init__(self, many); lay(self, one, other, room); more_room(self, one, other); ways_from(self, one);
        way(self, start, end); send(self, start, end); reached(self, start)""",
    ("flows", "Wants"): """
        __init__(self, lists, asker_bounds, room_bounds); linked(self, askers, rooms)""",
    ("kept", "Keeper"): """
        __init__(self, order, seats, keeps); choose(self, ones, kinds); refuses(self, ones, kinds)""",
    ("kept", "KeptMarket"): """
        __init__(self, lists, kinds, keepers); taken(self, match, room); ask_all(self); blocks(self, match);
        is_stable(self, match)""",
    ("terms", "Deals"): """
        __init__(self, contracts, lists, orders, seats); check(self, wish, place, who); choose(self, room, ones);
        offers(self); kept_by(self, made); free_asker(self, made, next_ones); of_asker(self, taken, asker);
        blocks(self, taken); is_stable(self, taken)""",
    ("liked", "Votes"): """
        __init__(self, lists, many); first(self, asker); second(self, asker); choices(self)""",
    ("days", "Fair"): """
        __init__(self); likes(self, asker, room); those_in(self, room); match(self); ask(self, asker); who_waits(self);
        go_on(self); part_of(self, askers, rooms); ask_anew(self, askers); told(self, before);
        come(self, asker, rooms); leave(self, asker); wish(self, asker, rooms); open_room(self, room, askers, count);
        set_room(self, room, askers, count); shut_room(self, room); change_room(self, room, askers, count);
        names(self); as_market(self); by_numbers(self); shown(self)""",
    ("books", "Deed"): """
        __init__(self, kind, who, words=(), count=None); line(self); shown(self); do(self, fair)""",
    ("books", "Book"): """
        __init__(self); do(self, line)""",
    ("sessions", "Session"): """
        __init__(self, book=None); say(self, line); do(self, line); number(self, words, word); paper(self);
        why(self, asker, room); lie(self, asker)""",
}


def told_defs(body):
    """The defs of a file or class as name(arguments)."""
    return {f"{node.name}({ast.unparse(node.args)})" for node in body if isinstance(node, ast.FunctionDef)}


def asked_defs(text):
    """The defs that a text asks for."""
    return {one.strip() for one in text.split(";") if one.strip()}


class Interface(unittest.TestCase):

    def setUp(self):
        self.trees = {path.stem: ast.parse(path.read_text()) for path in PACKAGE.glob("*.py")}

    def test_defs_stand_in_their_files(self):
        for name, text in DEFS.items():
            self.assertLessEqual(asked_defs(text), told_defs(self.trees[name].body), name)

    def test_classes_stand_in_their_files_with_their_methods(self):
        for (name, told), text in CLASSES.items():
            found = [node for node in self.trees[name].body if isinstance(node, ast.ClassDef) and node.name == told]
            self.assertEqual(len(found), 1, told)
            self.assertLessEqual(asked_defs(text), told_defs(found[0].body), told)

    def test_fields_are_there_from_the_beginning(self):
        market = Market(((0,),), ((0,),), (1,))
        tied = Tied(((0,),), (((0,),),))
        for made, fields in (
            (Wish((0,)), ("order", "ranks")),
            (market, ("askers", "rooms", "seats")),
            (Asking(market), ("market", "next", "held", "steps")),
            (Turn((0, 1), (1, 0)), ("askers", "rooms")),
            (tied, ("lists", "orders", "ranks")),
            (Strong(tied), ("tied", "left", "inside", "asked", "gone")),
            (Links(((0,),), 1), ("rows", "many")),
            (Search(((1,),)), ("wide", "many", "costs", "left", "right", "owner")),
            (Friends(2, ((0, 1),)), ("count", "near")),
            (Forest({0: ()}, {0: None}), ("near", "mates", "base", "came", "even", "waiting")),
            (Table(((),)), ("full", "left", "steps")),
            (Part(1, 2), ("top", "low")),
            (Meal(((0,),), 1), ("lists", "left", "had", "clock", "steps")),
            (Pipes(2), ("places", "room", "going")),
            (Wants(((0,),), ((0, 1),), ((0, 1),)), ("lists", "askers", "rooms")),
            (Keeper((0,), 1, ()), ("listed", "seats", "keeps")),
            (KeptMarket(((0,),), ("a",), (Keeper((0,), 1, ()),)), ("lists", "listedes", "kinds", "keepers")),
            (Deals(((0, 0, 0),), ((0,),), ((0,),), (1,)), ("contracts", "lists", "orders", "seats")),
            (Votes(((0,),), 1), ("lists", "things", "firsts")),
            (Fair(), ("lists", "orders", "seats", "held", "next", "asks")),
            (Deed("leave", "ann"), ("kind", "who", "words", "count")),
            (Book(), ("fair", "text", "many")),
            (Session(), ("book",)),
        ):
            self.assertLessEqual(set(fields), set(vars(made)))

    def test_values_stand_in_their_files(self):
        for name, values in VALUES.items():
            found = {node.targets[0].id: ast.literal_eval(node.value) for node in self.trees[name].body
                     if isinstance(node, ast.Assign)}
            for word, value in values.items():
                self.assertEqual(found[word], value, word)


if __name__ == "__main__":
    unittest.main()
