"""The examples of the interface, word for word, by heading."""

EXAMPLES = (
    (
        "checks",
        '''\
>>> [is_integer(True), is_within(3, None, 3), is_square([0, -2]), is_square((0, True)), are_squares([[1, 2], (0, 5)]), are_squares([(1, 2), [1, 2]]), are_squares(())]
[False, True, True, False, True, False, True]
>>> [squares_of([[1, 2], (0, 5), (-3, 9)]), around([2, -1]), squares_of([])]
[((-3, 9), (0, 5), (1, 2)), ((3, -1), (1, -1), (2, 0), (2, -2)), ()]
>>> around((1, 2, 3))
raises BadSquare('square')
''',
    ),
    (
        "papers",
        '''\
>>> note = Paper("note", [1, (2, [3])])
>>> [note.parts, bool(note), bool(Denial("no")), note == Denial("note", [1, (2, [3])]), fixed([[], {"a": [1]}])]
[((1, (2, (3,))),), True, False, False, ((), {'a': [1]})]
''',
    ),
    (
        "walls",
        '''\
>>> hook = [(1, 3), (0, 2), [1, 2]]
>>> [length_of(hook), burnt_in(hook, [(0, 2), (9, 9)]), cost_of(hook, [(0, 2), (9, 9)]), length_of([]), length_of([(5, 5)])]
[6, 1, 4, 0, 4]
>>> [is_better([], hook, [(0, 2)]), is_better([(0, 2)], [], [(0, 2)]), is_better([], [], []), is_better([(0, 2)], [(0, 2), (0, 3)], [(0, 2)])]
[True, True, False, True]
>>> [united(hook, [(0, 3), (1, 2)]), shared(hook, [(0, 3), (1, 2)]), clipped(hook, 1, 3, 7), clipped(hook, 0, -5, 5), clipped(hook, 5, 3, 2)]
[((0, 2), (0, 3), (1, 2), (1, 3)), ((1, 2),), ((1, 3),), ((0, 2),), ()]
>>> [wall_text(hook), wall_text([]), wall_read("0 -2 / 1 3")]
['0 2 / 1 2 / 1 3', '-', ((0, -2), (1, 3))]
>>> wall_read("1 3 / 0 2")
raises BadText(0, 3)
>>> length_of([(0, 0), (-1, 0)])
raises Misfit('wall')
''',
    ),
    (
        "parts",
        '''\
>>> gate = [(0, 1), (0, 3), (1, 3), (1, 2)]
>>> [parts_of(gate), rooted(gate + [(3, 0), (2, 1)]), parts_of([(3, 0), (2, 1)])]
[(((0, 1),), ((0, 3), (1, 2), (1, 3))), ((0, 1), (0, 3), (1, 2), (1, 3)), (((2, 1),), ((3, 0),))]
>>> [holes_of(gate), holes_of(gate + [(1, 1)]), filled(gate + [(1, 1)])]
[(), (((0, 2),),), ((0, 1), (0, 2), (0, 3), (1, 1), (1, 2), (1, 3))]
>>> [length_of(gate), length_of(gate + [(1, 1)]), length_of(filled(gate + [(1, 1)]))]
[8, 8, 4]
''',
    ),
    (
        "lines",
        '''\
>>> [beside((2, 3), (0, 1)), beside([1, 4], [-1, 0]), beside((0, 0), (1, 0)), beside((0, 0), (0, -1))]
[((1, 2), (2, 2)), ((1, 3), (1, 4)), ((-1, 0), (-1, -1)), ((0, 0), (-1, 0))]
>>> [next_step(hook, (0, 2), (0, 1)), next_step(hook, (2, 2), (1, 0)), next_step(hook, (1, 3), (0, -1)), step_back(hook, (1, 2), (1, 0))]
[((1, 2), (1, 0), (0, 1)), ((2, 3), (0, 1), (2, 2)), ((0, 3), (-1, 0), (0, 3)), ((0, 2), (0, 1), (0, 1))]
>>> [whole_line(hook)[2:5], len(whole_line(hook))]
[(((1, 2), (1, 0), (0, 1)), ((2, 2), (1, 0), (1, 1)), ((2, 3), (0, 1), (2, 2))), 10]
>>> [steps_on(gate, (1, 1), (1, 0), 3), next_step(gate, (1, 2), (0, -1))]
[(((1, 2), (0, 1), (1, 1)), ((0, 2), (-1, 0), (0, 2)), ((0, 3), (0, 1), (0, 2))), ((2, 2), (1, 0), (1, 1))]
>>> [len(whole_line(gate)), len(whole_line(gate + [(1, 1)])), whole_line([])]
[12, 8, (((0, 1), (0, 1), (0, 0)),)]
>>> next_step(hook, (1, 1), (0, 1))
raises Misfit('step')
''',
    ),
    (
        "boards",
        '''\
>>> board, far = Board([], [], [(0, 5), (0, 3)]), Board([], [], [(5, 5)])
>>> mixed = Board([(0, 2)], [(1, 2)], [(1, 2), (3, 1), (-4, 9)])
>>> [board.burnt, box_of(board), box_of(far), box_of(mixed), box_of(Board([], [(7, 7)], [(7, 7), (-1, 0)]))]
[((0, 3), (0, 5)), (0, 3, 5), (5, 5, 5), (3, 1, 2), None]
>>> [mixed.is_passed((1, 2)), mixed.is_passed([0, -6]), mixed.is_passed((0, 1)), fits(mixed, [(2, 2), (0, 2)]), fits(mixed, [(0, 2), (1, 2)]), fits(mixed, [])]
[True, True, False, True, False, False]
>>> Board([(0, 0)], [], [])
raises Misfit('held')
>>> fits(board, [(-1, 2)])
raises Misfit('wall')
''',
    ),
    (
        "best",
        '''\
>>> [best_for(board).squares, cheapest_cost(board), best_for(far).squares, cheapest_cost(far), best_for(mixed).squares, cheapest_cost(mixed)]
[((0, 3), (0, 4), (0, 5)), -2, (), 0, ((0, 2),), 2]
>>> best_for(Board([], [], [(0, 1)])) == Best([(0, 1)], [[2]], [[-2], [2]])
True
>>> [best_for(Board([], [], [(7, 7), (7, 8), (8, 7), (8, 8)])).squares, best_for(Board([], [], [(2, 9), (3, 8)])).squares]
[((7, 7), (7, 8), (8, 7), (8, 8)), ()]
>>> [best_for(Board([], [(0, 4)], [(0, 3), (0, 5), (1, 4)])).squares, best_for(Board([], [], [(0, 3), (0, 5), (1, 4)])).squares]
[((0, 3), (0, 5)), ((0, 3), (0, 4), (0, 5), (1, 4))]
>>> best_for(Board([], [(3, 3)], [(3, 3)])) == Best([], [], [])
True
''',
    ),
    (
        "check_best",
        '''\
>>> row, low, high = [2, 2, 2, 2, 1, 2], [0, 0, 0, 0, 0, -2], [0, 0, 0, 0, 1, 2]
>>> [shows_best(far, Best([], [row], [low, high])), shows_best(far, Best([], [row], [high, low])), shows_best(far, Best([], [[2] * 6], [low, high])), shows_best(far, Best([(5, 5)], [row], [low, high]))]
[True, False, False, False]
>>> [shows_best(board, best_for(board)), shows_best(far, best_for(board)), shows_best(far, Best([], [], []))]
[True, False, False]
''',
    ),
    (
        "stands",
        '''\
>>> first = flown(start(), [(0, 1)])
>>> [str(start()), first.turn, first.square, first.corner, first.heading, first.wall, first.passed, first.burnt]
['1 0 0 0 0 1 0 1 / / 0 0 /', 1, (1, 1), (1, 2), (0, 1), ((0, 1),), ((0, 0), (1, 1)), ((0, 1),)]
>>> [way_of(start()), way_of(first), flown(start(), []).square, flown(first, [None]).square]
[(((0, 2), (0, 1), (0, 1)), ((0, 3), (0, 1), (0, 2))), (((0, 2), (-1, 0), (0, 2)), ((0, 3), (0, 1), (0, 2))), (0, 2), (0, 2)]
>>> [str(first), Stand.read(str(first)) == first, flown(first, [[1, 1]]) == flown(first, ())]
['1 1 1 1 1 2 0 1 / 0 1 / 0 0 1 1 / 0 1', True, True]
>>> hook = Stand(1, 7, (0, 2), (0, 3), (0, 1), [(0, 3), (1, 3), (1, 2)], [(0, 2), (0, 1)], [(1, 2), (1, 3), (0, 3)])
>>> [flown(hook, []).square, flown(hook, []).corner, flown(hook, []).heading, way_of(hook)[0], flown(hook, [(0, 2)]).burnt == hook.burnt]
[(0, 2), (1, 2), (0, -1), ((1, 3), (1, 0), (0, 2)), True]
>>> second = flown(start(2), [(1, 5), (1, 6)])
>>> [second.pace, second.square, second.wall, flown(second, [None]).square, len(way_of(second))]
[2, (0, 4), ((0, 5), (0, 6), (1, 5), (1, 6)), (2, 6), 4]
>>> Stand(1, 0, (0, 0), (0, 1), (0, 2), [], [(0, 0)], [])
raises BadStand('heading')
>>> Stand(1, 0, (1, 0), (0, 1), (0, 1), [], [(1, 0)], [])
raises Misfit('square')
>>> Stand(1, 1, (0, 2), (0, 3), (0, 1), [(0, -1)], [(0, 2)], [])
raises Misfit('wall')
>>> flown(start(), (0, 3))
raises BadBurns('burns')
>>> flown(start(), [(0, 3), None])
raises TooMany('burns', 1)
>>> Stand.read("1 0 0 0 0 1 1 1 / / 0 0 /")
raises BadText(0, 7)
''',
    ),
    (
        "flights",
        '''\
>>> burns = [(1, 5), (1, 6), None]
>>> [[stand.wall for stand in flight(burns).stands[:3]], [best.squares for best in flight(burns).walls[:2]], len(flight(burns).walls)]
[[(), (), ((0, 5), (0, 6), (1, 5), (1, 6))], [(), ((0, 5), (0, 6), (1, 5), (1, 6))], 3]
>>> [where(burns), where([]), where([(0, 3), [0, 3], (0, 1)]), where(burns, 2), flight(burns).stands[3].corner]
[((0, 0), (0, 2), (0, 4), (1, 4)), ((0, 0),), ((0, 0), (0, 2), (1, 3), (0, 4)), ((0, 0), (0, 4), (2, 6)), (2, 5)]
>>> [board.passed for board in boards_of(burns)[:2]], boards_of(burns)[2] == Board(((0, 5), (0, 6), (1, 5), (1, 6)), [(0, 0), (0, 1), (0, 2), (0, 3), (0, 4)], burns[:2])
([((0, 0),), ((0, 0), (0, 1), (0, 2))], True)
>>> flight([(0, 1), 5])
raises BadBurns('burns')
''',
    ),
    (
        "check_flights",
        '''\
>>> told = flight(burns)
>>> [shows_flight(burns, told), shows_flight(burns, told, 2), shows_flight(burns[:2], told), shows_flight(burns[:2], Flight(list(told.stands[:3]), told.walls[:2]))]
[True, False, False, True]
>>> [shows_flight(burns, Flight(told.stands, told.walls[::-1])), shows_flight(burns, Flight(told.stands[:3] + (flown(told.stands[2], [(9, 9)]),), told.walls))]
[False, False]
''',
    ),
    (
        "pockets",
        '''\
>>> nook, gate = [(0, 4), (1, 4), (1, 3), (1, 2)], [(0, 1), (0, 3), (1, 3), (1, 2)]
>>> [meetings_of(nook), shut_in(nook, 2, 6), closed_at(nook, 2, 6), shut_in(nook, 3, 5)]
[((2, 6), (3, 4), (3, 5), (4, 5)), ((0, 3),), ((0, 2), (0, 3), (0, 4), (1, 2), (1, 3), (1, 4)), ()]
>>> [length_of(nook), length_of(closed_at(nook, 2, 6)), length_of(closed_at(nook, 3, 5))]
[8, 4, 6]
>>> [whole_line(gate)[2][2], shut_in(gate, 2, 7), length_of(gate), length_of(closed_at(gate, 2, 7)), meetings_of([])]
[(1, 1), ((0, 2),), 8, 4, ()]
>>> closed_at(nook, 2, 5)
raises Misfit('square')
>>> shut_in(nook, 6, 6)
raises BadNumber('other')
''',
    ),
    (
        "blames",
        '''\
>>> cup = ((0, 10), (1, 8), (1, 9), (1, 10))
>>> burns, walls = [(0, 10), (1, 10), (1, 9), (1, 8), None, (0, 8)], [(), (), (), (), cup, cup]
>>> [[stand.square for stand in wall_run(burns, walls)], costs_of(burns, walls)[3:], rises_of(burns, walls), caught_at(burns, walls)]
[[(0, 0), (0, 2), (0, 4), (0, 6), (0, 8), (0, 9), (0, 8)], ((0, 0), (0, 0), (0, 0)), (), 6]
>>> [first_passed(burns, walls, square) for square in ((0, 8), (0, -3), (5, 5))], left_out(burns, walls)[2:5]
([4, 0, None], (((0, 10),), ((0, 10),), ()))
>>> [blame(burns[:5], walls[:5]), costs_of([None], [[(0, 3)]]), rises_of([None], [[(0, 3)]]), caught_at([(0, 2)], [[]])]
[None, ((0, 2),), (1,), 1]
>>> row = [(0, 3), (0, 4), None, (1, 3), (1, 6)]
>>> [[stand.square for stand in wall_run(row, [row[:2]] * 3, 2)], costs_of(row, [row[:2]] * 3, pace=2)]
[[(0, 0), (1, 3), (0, 6), (0, 10)], ((0, -2), (-2, -2), (-2, -2))]
>>> wall_run([None, None], [[(0, 5)], []])
raises Misfit('walls')
>>> blame(burns, [(), 5])
raises BadSquares('walls')
''',
    ),
    (
        "check_blames",
        '''\
>>> block = [(0, 8), (0, 9), (0, 10), (1, 8), (1, 9), (1, 10)]
>>> [shows_blame(burns, walls, Blamed(turn, block)) for turn in (1, 2, 4, 5)], shows_blame(burns, walls, blame(burns, walls))
([False, True, True, False], True)
>>> [shows_blame(burns, walls, Blamed(turn, cup)) for turn in (3, 4, 5)], shows_blame(burns, walls, Blamed(1, ((0, 10),))), shows_blame([None], [[(0, 3)]], Blamed(1, []))
([False, True, False], True, True)
''',
    ),
    (
        "burners",
        '''\
>>> [Told([(0, 5)]).burns(start()), Told([(0, 5)]).burns(start(2)), Told([]).burns(start()), Ahead(6).burns(start()), Ahead(1).burns(start(2)), Ring((0, 5), 1).burns(start(3))]
[((0, 5),), ((0, 5), None), (None,), ((0, 6),), ((0, 1), (0, 2)), ((-1, 4), (-1, 5), (-1, 6))]
>>> [Block((0, 0), 2).burns(start()), Block((0, 0), 1).burns(start(2)), Looker([(1, 1), (0, 1)], 0).burns(start())]
[((0, 1),), (None, None), ((0, 1),)]
>>> chase, pairs = match(Ahead(2), 2), match(Ahead(4), 1, 2)
>>> [[stand.square for stand in chase.stands], chase == flight([(0, 2), (0, 3)]), [stand.square for stand in pairs.stands], len(match(Told([]), 3).stands)]
[[(0, 0), (0, 1), (1, 3)], True, [(0, 0), (0, 3)], 4]
>>> Looker([], 0)
raises BadSquares('tries')
>>> match(None, 1)
raises BadBurns('burner')
''',
    ),
    (
        "strips",
        '''\
>>> line, pair = Strip(1, 1, 2), Strip(2, 1, 2)
>>> [strip_burn(line, [], (0, 0)), strip_burn(line, [(0, 2)], (0, -1)), strip_burn(line, [(0, 2), (0, -2)], [0, -1]), may_fly(line, [(0, 2)], (0, 0)), may_fly(pair, [(0, 1)], (1, 1))]
[(0, 2), (0, -2), (0, 0), ((0, -1), (0, 1)), ((0, 0), (0, 2), (1, 0), (1, 2))]
>>> [strip_game(line, 0, [(0, -1), (0, 0)]), strip_game(pair, 0, [(0, -1), (1, -2)]), strip_game(pair, 1, [])]
[((0, 2), (0, -2), (0, -1)), ((0, 2), (0, -2)), ((0, 2),)]
>>> [passage(line, 0) == Shut(4), passage(Strip(1, 1, 1), 0) == Through([(0, -1)]), bool(passage(pair, 1)), passage(Strip(2, 2, 9), 1).turns]
[True, True, True, 41]
>>> strip_game(line, 0, [(0, 2)])
raises Misfit('flights')
''',
    ),
    (
        "check_strips",
        '''\
>>> [shows_passage(pair, 0, Through([(0, -1), (1, -2)])), shows_passage(pair, 0, Through([(0, -1), (0, -2)])), shows_passage(pair, 0, Shut(7)), shows_passage(line, 0, Shut(4)), shows_passage(line, 0, Through([(0, -1), (0, -2)]))]
[True, False, False, True, False]
''',
    ),
    (
        "climbers",
        '''\
>>> [combs_for(1), height_for(1), combs_for(2), height_for(2) == 2 ** 41, height_for(3) == 2 ** 120]
[5, 256, 33, True, True]
>>> [reach_of(1, (0, 0)), reach_of(1, (7, 250)), turns_for(2, (0, 0), (5, 6)), turns_for(2, (0, 0), (13, 6)), turns_for(2, (0, 0), (1, 0))]
[(-256, 256), (1, 13), (3, 6), None, None]
>>> reach_of(1, (0, 256))
raises Misfit('square')
''',
    ),
    (
        "climbs",
        '''\
>>> climb = begun(1)
>>> [climb.power, climb.turn, climb.square, climb.origins, climb.lasted, burn_of(climb), due_of(climb)]
[1, 0, (0, 0), ((0, 0),), (0,), (-255, 256), 103]
>>> there = moved(climb, 100, (30, 100))
>>> [there.turn, there.lasted, burn_of(there), [is_burnt(there, square) for square in ((240, 256), (245, 256), (1, 256), (0, 255))]]
[100, (100,), (245, 256), [True, False, False, False]]
>>> half = moved(there, 28, [30, 128])
>>> [half.origins, half.lasted, burn_of(half), due_of(half), is_burnt(half, (-255, 256)), is_burnt(half, (260, 256))]
[((0, 0), (30, 128)), (128, 0), (-94, 256), 51, True, False]
>>> moved(half, 65, (30, 193))
raises Misfit('square')
>>> up = moved(moved(moved(moved(half, 64, (0, 192)), 32, (0, 224)), 16, (0, 240)), 8, (0, 248))
>>> end = moved(up, 7, (0, 255))
>>> [is_caught(up), burn_of(up), end.lasted, is_caught(end), [is_burnt(end, (x, 256)) for x in (-1, 0, 1)]]
[False, None, (128, 64, 32, 16, 8, 7), True, [True, True, True]]
''',
    ),
    (
        "check_climbs",
        '''\
>>> [judged(end) == Caught(end.origins, end.lasted, (0, 255)), bool(judged(up)), [shows_judged(up, Free(square)) for square in ([1, 249], (0, 250), (0, 248), (-1, 249))]]
[True, False, [True, False, False, True]]
>>> plain = Caught([(0, 0), (0, 128), (0, 192), (0, 224), (0, 240), (0, 248)], [128, 64, 32, 16, 8, 7], (0, 255))
>>> [shows_climb(1, plain), shows_climb(1, judged(end)), shows_climb(2, plain), shows_climb(1, Caught(plain.origins, [128, 64, 32, 16, 7, 8], (0, 255)))]
[True, True, False, False]
''',
    ),
    (
        "seats",
        '''\
>>> here, there = Seat(0, 2, 3, 2), Seat(1, 2, 3, 2)
>>> letter = here.decide((0, 3))
>>> [letter, there.decide(None), there.tick().square, there.tick().square, there.settled, there.asks()]
[(1, 0, (0, 3)), (1, 1, None), (0, 4), (0, 8), 0, ((1, 0), (2, 0))]
>>> [there.hears(letter), there.shown.square, there.settled, there.backs, there.rerun, there.asks(), there.sure().square, [stand.turn for stand in there.kept]]
[True, (0, 6), 1, 1, 2, ((2, 0),), (1, 3), [0, 2]]
>>> [there.hears([1, 0, [0, 3]]), there.own, there.decide((0, 6)), there.shown.square, there.backs, there.rerun, there.known]
[False, 2, (2, 1, (0, 6)), (0, 7), 2, 4, ((1, 0, (0, 3)), (1, 1, None), (2, 1, (0, 6)))]
>>> [str(there), Seat.read(str(there)) == there, there.hears((2, 0, None)), there.backs, there.settled]
['1 2 3 2 2 2 4 / 1 0 0 3 / 1 1 - / 2 1 0 6', True, True, 2, 2]
>>> there.hears((1, 0, None))
raises Twice((1, 0))
>>> there.hears((3, 1, None))
raises Misfit('turn')
>>> there.hears((1, 2, None))
raises Misfit('seat')
>>> here.hears((61, 1, None))
raises BadBurns('letter')
>>> Seat(2, 2, 3, 2)
raises Misfit('number')
>>> Seat.read("1 2 0 2 1 0 0")
raises BadText(0, 6)
''',
    ),
    (
        "roads",
        '''\
>>> house = House(2, 3, 2)
>>> [house.decide(0, (0, 3)), house.decide(1, None), house.road.letters]
[(1, 0, (0, 3)), (1, 1, None), ((1, (1, 0, (0, 3))), (0, (1, 1, None)))]
>>> [house.tick(1).square, house.lose(0), house.ask(1), house.road.letters, house.twice(1), house.bring(1), len(house.road)]
[(0, 4), (1, (1, 0, (0, 3))), 1, ((0, (1, 1, None)), (1, (1, 0, (0, 3)))), True, False, 1]
>>> [house.seats[1].settled, house.seats[0].settled, house.settle(), house.tick(0).square, house.tick(1).square, house.tick(0) == house.seats[1].shown]
[1, 0, (1, 1), (1, 3), (0, 6), True]
>>> house.bring(0)
raises BadNumber('index')
''',
    ),
    (
        "check_seats",
        '''\
>>> [story_of(house.seats).parts, shows_story(house.seats, Story([[0, 3], None], [1, 1])), parted_at(house.seats[0], house.seats[1])]
[(((0, 3), None), (1, 1)), True, None]
>>> other = Seat.read("0 2 3 2 1 0 0 / 1 0 -")
>>> [parted_at(there, other), story_of([other, there]).parts]
[1, (1, 0)]
''',
    ),
    (
        "pictures",
        '''\
>>> burns = [(0, 5), (0, 3), None, None]
>>> stands = flight(burns).stands
>>> [stand.square for stand in stands]
[(0, 0), (0, 2), (1, 3), (1, 5), (0, 6)]
>>> picture(stands[2], (-1, 2), (2, 6))
('|...', '|#..', '|+..', '|#@.', '|*..')
>>> picture(start(), (-2, -1), (1, 1))
('||..', '||@.', '||*.')
>>> picture(start(), (0, 0), (1, -1))
raises Misfit('box')
''',
    ),
    (
        "films",
        '''\
>>> film = Film(burns)
>>> [str(film), str(Film([])), Film.read("burns - / 7 -2").burns, film.cut(1).burns, str(film.cut(1).joined(Film([None])))]
['burns 0 5 / 0 3 / - / -', 'burns', (None, (7, -2)), ((0, 5),), 'burns 0 5 / -']
>>> [film.stand(3).square, film.frames((0, 2), (1, 3))[1:3], parting(film, film.cut(1).joined(Film([None, None]))), parting(film, film.cut(2))]
[(1, 5), (('..', '@.'), ('#@', '*.')), 2, None]
>>> quick = Film([(0, 5), (0, 3), None], 2)
>>> [str(quick), quick.turns, [quick.stand(turn).square for turn in (0, 1, 2)], quick.cut(1).burns, quick.joined(quick).burns[3:]]
['pace 2 burns 0 5 / 0 3 / -', 2, [(0, 0), (1, 3), (0, 6)], ((0, 5), (0, 3)), (None, (0, 5), (0, 3), None)]
>>> Film.read("burns 0 5 / 0")
raises BadText(0, 5)
>>> Film.read("burns - 0")
raises BadText(0, 2)
>>> Film.read("pace 1 burns")
raises BadText(0, 1)
>>> film.cut(5)
raises BadNumber('turns')
''',
    ),
    (
        "desks",
        '''\
>>> desk = Desk()
>>> [desk.tell(line) for line in ("open one", "burn one 0 5", "copy two one", "burn one 0 3", "burn two -", "film one", "where two 2")]
['opened', '0 2', 'copied', '1 3', '0 4', 'burns 0 5 / 0 3', '0 4']
>>> [desk.tell("show one 2 -1 2 2 6"), desk.names(), desk.kept("two") == Film([(0, 5), None])]
['|... |#.. |+.. |#@. |*..', ('one', 'two'), True]
>>> desk.back()
>>> [str(desk.kept("two")), desk.done()[-1]]
['burns 0 5', 'burn one 0 3']
>>> [desk.tell(line) for line in ("open quick 3", "burn quick 0 5 / 0 3", "film quick")]
['opened', '1 5', 'pace 3 burns 0 5 / 0 3 / -']
>>> desk.tell("copy one two")
raises Twice('one')
>>> desk.tell("burn two 1 1 / -")
raises TooMany('burns', 1)
>>> desk.tell("where two 2")
raises Misfit('turn')
>>> desk.tell("burn one 0")
raises BadText(0, 3)
''',
    ),
)
