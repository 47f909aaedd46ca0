"""Right and wrong arguments of the functions of orders, pictures, pieces, prices, standings, stations and stock."""

from nobodymeets.errors import (InvalidComings, InvalidDeeds, InvalidGoods, InvalidHomes, InvalidLines,
                                InvalidLot, InvalidLots, InvalidOrders, InvalidPicture, InvalidPrices, InvalidRobots,
                                InvalidSize, InvalidStanding, InvalidStock, InvalidWants)
from nobodymeets.halls import read_drawing
from nobodymeets.orders import pairs_hold, pairs_paper, wave_holds, wave_paper
from nobodymeets.pictures import hall_picture, read_picture
from nobodymeets.pieces import (all_pieces, parting_cells, parts_holds, parts_paper, reached_cells, strong_pieces,
                                together_holds, together_paper)
from nobodymeets.prices import (fairest_dealing, fairest_holds, greatest_prices, least_prices, mixed_prices,
                                power_table, prices_hold, way_table)
from nobodymeets.standings import home_tree, standing_count, standing_holds, standing_paper, turned_count
from nobodymeets.stations import apart_orders, carries_fault, carries_serve, made_carries, row_carries
from nobodymeets.stock import (begin_book, book_after, earliest_moment, give_till, promise_holds, promise_paper,
                               spoilt_line, till_holds, till_paper)
from tests.calls import WRONG_HALL, WRONG_TABLE, hall, wrong, wrong_cells
from tests.helpers import listed, no_integers, no_sequences, odd_values

TABLE = ((1, 5, 9), (2, 9, None))
PRICES, OTHERS = (4, 0, 0), (11, 4, 0)
ONE, OTHER = ((1, 0), (4, 2)), ((1, 2), (4, 0))
GOODS = ((3, 2), (1, 4))
SHELVES = (((1, 2), (0, 1)), (), ((2, 9),))
BOOK = ((((0, 1), (1, 2)), (), ((2, 9),)), 1, (3, 4))
DEEDS = ((0, "in", 1, 2, 3), (2, "move", 2, 0, 2, 4), (7, "found", 1, 5, 0))
ROWS = ((3, 1, 2), (0, 1, 1), (3, 1, 4))
WANTS = ((4, 1, 5), (0, 1, 2), (4, 3, 1))
LOTS, LINE = ((1, 5, 2), (1, 3, 1), (2, 4, 9)), (1, 3, 2)
WANTED = ((1, 2), (2, 4))
ENOUGH = (((1, 2), (2, 9)), ((2, 4),))
HOMES = ((1, 0), (2, 2), (5, 1))
ORDERS = (((1, 1),), (), ((2, 3), (1, 1)))

NO_COUNTS = no_integers() + [0, -1, -10 ** 9]
NO_NUMBERS = no_integers() + [-1, -10 ** 9]
NO_GOODS = [value for value in odd_values() if value not in ((), [])] + [
    ((1, 0),), ((1, -1),), ((1, True),), ((True, 1),), ((-1, 1),), ((1, 2), (1, 3)), ((1, 2, 3),), [(1,)], [[1, "2"]]]
NO_ROWS = [(1, 2), (1, 2, 0), (1, 2, -1), (1, -2, 1), (-1, 2, 1), (1, 2, 3, 4), (True, 2, 3), (1, False, 3), (1, 2, True),
           ("1", 2, 3), (1, 2, None)]

WRONG_GOODS = wrong(NO_GOODS, InvalidGoods, -1)
WRONG_SHELVES = wrong(no_sequences(), InvalidGoods, -1) + wrong(
    [((), goods, 0) for goods in NO_GOODS], InvalidGoods, 1)
WRONG_PRICES = wrong(no_sequences() + [(), (1, 2), (1, 2, 3, 4)], InvalidPrices, -1) + wrong(
    [(1, value, None) for value in NO_NUMBERS], InvalidPrices, 1)
WRONG_STANDING = wrong(no_sequences(), InvalidStanding, -1) + wrong(
    [((2, 0), pair, None) for pair in odd_values() + [(3, 5), (3, 0), (2, 1), (1, 1), (3, -1), (-3, 1), (3, 1, 0), "31",
                                                      (True, 1), (3, True), (3,)]], InvalidStanding, 1)
WRONG_HOMES = wrong(no_sequences(), InvalidHomes, -1) + wrong(
    [((1, 0), pair, 0) for pair in odd_values() + [(1, 2), (2, -1), (-2, 1), (2, True), (True, 0), (2, 0, 0), (2,)]
     if pair != (0, 0)], InvalidHomes, 1)
WRONG_ORDERS = wrong(no_sequences(), InvalidOrders, -1) + wrong(
    [((), goods, 0) for goods in NO_GOODS], InvalidOrders, 1)
UNHOMED = wrong([((), ((3, 1),), None), ([[1, 1]], [[2, 1], [0, 1]])], InvalidOrders, 1)
WRONG_SLOTS = wrong(NO_COUNTS, InvalidSize, "slots")
WRONG_BOOKS = wrong(odd_values() + [
    listed(BOOK), list(BOOK), BOOK[:2], BOOK + (0,), (list(BOOK[0]),) + BOOK[1:], BOOK[:2] + ([3, 4],),
    (BOOK[0], 1, (1,)), (BOOK[0], 1, (0,)), (BOOK[0], 1, (4, 3)), (BOOK[0], 1, (3, 3)), (BOOK[0], -1, ()),
    (BOOK[0], True, ()), (BOOK[0], 0, (True,)), (BOOK[0], 0, None), (BOOK[0], None, ()), (None, 0, ()),
    ((((1, 2), (0, 1)),), 0, ()), ((((0, 1), (0, 1)),), 0, ()), ((((0, 0),),), 0, ()), ((((0, True),),), 0, ()),
    (([(0, 1)],), 0, ()), ((([0, 1],),), 0, ())], InvalidStock, -1)
WRONG_DEEDS = wrong(no_sequences(), InvalidDeeds, -1) + wrong([(DEEDS[0], deed, None) for deed in odd_values() + [
    (1, "in", 0, 0, 0), (1, "in", 3, 0, 1), (1, "in", -1, 0, 1), (1, "out", 0, -1, 1), (-1, "out", 0, 0, 1),
    (1, "found", 0, 0, -1), (1, "found", 0, 0, True), (1, "found", 0, 0), (1, "move", 0, 0, 0, 1), (1, "move", 0, 0, 1),
    (1, "move", 0, 3, 0, 1), (1, "move", 0, 1, 0, 0), (1, "in", 0, 1, 0, 1), (1, "take", 0, 0, 1), (1, None, 0, 0, 1),
    (1, ["in"], 0, 0, 1), (True, "in", 0, 0, 1), (1, "in", True, 0, 1), (1, "in", 0, False, 1), (1, "in", 0, 0, "1"),
    (1, "move", True, 0, 0, 1), (1, "move", 0, True, 0, 1), (1, "in", 0, 0, 1, None, 1)]], InvalidDeeds, 1)


def wrong_rows(error):
    """What is wrong where rows are asked."""
    return wrong(no_sequences(), error, -1) + wrong(
        [((0, 0, 1), row, None) for row in odd_values() + NO_ROWS], error, 1)


def two_way():
    return read_drawing("P.H\n#S#")


def shown():
    return ((), False), ((0, 1), True), [[2], False]


def picture():
    return hall_picture(read_drawing("P.H\n.^#"), shown())


WRONG_ROBOTS = wrong(no_sequences(), InvalidRobots, -1) + wrong([(((0, 1), False), robot, 0) for robot in odd_values() + [
    ((2,),), ((2,), 0), ((2,), 1), ((2,), None), ((), True), ((1,), False), ((0,), True), ((2, 1), False), ((2, 0), False),
    ((2, 3, 2), False), ((7,), False), ((-1,), False), ((True,), False), (2, False), ("2", False), ((2,), False, False),
    ((None,), False), ((3, 2, 1), True), ((2, 2), False)]], InvalidRobots, 1) + wrong([(((), False),) * 27], InvalidRobots, 26)


def more_calls():
    """For each function: its right arguments by name, and what wrong ones raise."""
    return piece_calls() + standing_calls() + price_calls() + stock_calls() + order_calls()


def piece_calls():
    two = {"hall": WRONG_HALL, "one": wrong_cells(0), "other": wrong_cells(1)}
    right = {"hall": hall(), "one": 0, "other": 2}
    return [
        (together_paper, right, two),
        (together_holds, {**right, "value": ("way", (0, 1, 2))}, {**two, "value": []}),
        (all_pieces, {"hall": hall()}, {"hall": WRONG_HALL}),
        (parting_cells, right, two),
        (parts_paper, right, two),
        (parts_holds, {**right, "value": ("cell", 1, (0,))}, {**two, "value": []}),
        (reached_cells, {"hall": hall(), "cell": 3}, {"hall": WRONG_HALL, "cell": wrong_cells(-1)}),
        (strong_pieces, {"hall": hall()}, {"hall": WRONG_HALL}),
    ]


def standing_calls():
    both = {"hall": WRONG_HALL, "one": WRONG_STANDING, "other": WRONG_STANDING}
    right = {"hall": two_way(), "one": ONE, "other": OTHER}
    return [
        (home_tree, {"hall": two_way(), "one": ONE}, {"hall": WRONG_HALL, "one": WRONG_STANDING}),
        (standing_paper, right, both),
        (standing_holds, {**right, "value": standing_paper(two_way(), ONE, OTHER)}, {**both, "value": []}),
        (turned_count, {"hall": two_way(), "standing": ONE}, {"hall": WRONG_HALL, "standing": WRONG_STANDING}),
        (standing_count, {"hall": two_way(), "standing": ONE}, {"hall": WRONG_HALL, "standing": WRONG_STANDING}),
    ]


def price_calls():
    no_cells = no_sequences() + [(), [], (0,) * 13, (0, 4), (0, -1), (True,), (0, None), ("0",), ((0,),)]
    return [
        (prices_hold, {"table": TABLE, "prices": PRICES}, {"table": WRONG_TABLE, "prices": WRONG_PRICES}),
        (mixed_prices, {"table": TABLE, "prices": PRICES, "others": OTHERS},
         {"table": WRONG_TABLE, "prices": WRONG_PRICES, "others": WRONG_PRICES}),
        (least_prices, {"table": TABLE}, {"table": WRONG_TABLE}),
        (greatest_prices, {"table": TABLE}, {"table": WRONG_TABLE}),
        (power_table, {"table": TABLE}, {"table": WRONG_TABLE}),
        (fairest_dealing, {"table": TABLE}, {"table": WRONG_TABLE}),
        (fairest_holds, {"table": TABLE, "value": fairest_dealing(TABLE)}, {"table": WRONG_TABLE, "value": []}),
        (way_table, {"hall": hall(), "starts": (3, 0, 3), "goals": (2,)}, {
            "hall": WRONG_HALL, "starts": wrong(no_cells, InvalidLot, 0), "goals": wrong(no_cells, InvalidLot, 1)}),
    ]


def stock_calls():
    kept = {"stock": GOODS, "comings": ROWS, "wants": WANTS}
    wrongs = {"stock": WRONG_GOODS, "comings": wrong_rows(InvalidComings), "wants": wrong_rows(InvalidWants)}
    lots, lines = wrong_rows(InvalidLots), wrong_rows(InvalidLines)
    line = wrong(odd_values() + NO_ROWS, InvalidLines, 0)
    no_gifts = odd_values() + [[(0, 1), (1, 1)], ([0, 1], [1, 1]), ((0, 1),), ((0, 3),), ((1, 1), (0, 1)), ((2, 2),),
                               ((0, 1), (1, 2)), ((0, True), (1, 1)), ((False, 1), (1, 1)), ((0, 2), (1, 0)), ((3, 2),)]
    return [
        (begin_book, {"shelves": SHELVES}, {"shelves": WRONG_SHELVES}),
        (book_after, {"book": BOOK, "deeds": DEEDS}, {"book": WRONG_BOOKS, "deeds": WRONG_DEEDS}),
        (promise_paper, kept, wrongs),
        (promise_holds, {**kept, "value": promise_paper(*kept.values())}, {**wrongs, "value": []}),
        (earliest_moment, {**kept, "good": 1, "count": 2}, {
            **wrongs, "good": wrong(NO_NUMBERS, InvalidSize, "good"), "count": wrong(NO_COUNTS, InvalidSize, "count")}),
        (give_till, {"lots": LOTS, "line": LINE}, {"lots": lots, "line": line}),
        (till_paper, {"lots": LOTS, "lines": (LINE, (2, 1, 1))}, {"lots": lots, "lines": lines}),
        (till_holds, {"lots": LOTS, "lines": (LINE,), "value": ("given", (((0, 2),),))},
         {"lots": lots, "lines": lines, "value": []}),
        (spoilt_line, {"lots": LOTS, "line": LINE, "gifts": ((0, 2),)},
         {"lots": lots, "line": line, "gifts": wrong(no_gifts, InvalidLines, -1)}),
    ]


def order_calls():
    wave = {"shelves": ENOUGH, "wanted": WANTED}
    wrongs = {"shelves": WRONG_SHELVES, "wanted": WRONG_GOODS}
    station = {"homes": HOMES, "orders": ORDERS, "slots": 2}
    wrong_station = {"homes": WRONG_HOMES, "orders": WRONG_ORDERS + UNHOMED, "slots": WRONG_SLOTS}
    carries = made_carries(SHELVES, HOMES, ORDERS, 2)
    return [
        (wave_paper, {**wave, "knots": 40}, {**wrongs, "knots": wrong(NO_COUNTS, InvalidSize, "knots")}),
        (wave_holds, {**wave, "value": wave_paper(ENOUGH, WANTED, 40)}, {**wrongs, "value": []}),
        (pairs_paper, wave, wrongs),
        (pairs_hold, {**wave, "value": pairs_paper(ENOUGH, WANTED)}, {**wrongs, "value": []}),
        (row_carries, station, wrong_station),
        (apart_orders, {**station, "shelf": 2}, {**wrong_station, "shelf": wrong(NO_NUMBERS, InvalidSize, "shelf")}),
        (carries_serve, {**station, "value": row_carries(HOMES, ORDERS, 2)}, {**wrong_station, "value": []}),
        (made_carries, {"shelves": SHELVES, **station}, {"shelves": WRONG_SHELVES, **wrong_station}),
        (carries_fault, {"shelves": SHELVES, "orders": ORDERS, "slots": 2, "value": carries[1]},
         {"shelves": WRONG_SHELVES, "orders": WRONG_ORDERS, "slots": WRONG_SLOTS, "value": []}),
        (hall_picture, {"hall": read_drawing("P.H\n.^#"), "robots": shown()},
         {"hall": WRONG_HALL, "robots": WRONG_ROBOTS}),
        (read_picture, {"text": picture()}, {"text": wrong(odd_values() + ["\n", "###", "P", "P  \n", "P  \n\nP  "],
                                                           InvalidPicture, -1)}),
    ]
