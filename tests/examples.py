"""The examples of the interface, word for word, by heading."""

EXAMPLES = (
    (
        "checks",
        '''\
>>> [is_integer(True), is_within(3, None, 3), is_square([0, -2]), is_square((0, True)), are_squares([[1, 2], (0, 5)]), are_squares([(1, 2), [1, 2]]), are_squares(())]
[False, True, True, False, True, False, True]
>>> [squares_of([[1, 2], (0, 5), (-3, 9)]), around([2, -1]), squares_of([])]
[((-3, 9), (0, 5), (1, 2)), ((3, -1), (1, -1), (2, 0), (2, -2)), ()]
>>> around((1, 2, 3))
raises BadSquare('square')
''',
    ),
    (
        "papers",
        '''\
>>> note = Paper("note", [1, (2, [3])])
>>> [note.parts, bool(note), bool(Denial("no")), note == Denial("note", [1, (2, [3])]), fixed([[], {"a": [1]}])]
[((1, (2, (3,))),), True, False, False, ((), {'a': [1]})]
''',
    ),
    (
        "walls",
        '''\
>>> hook = [(1, 3), (0, 2), [1, 2]]
>>> [length_of(hook), burnt_in(hook, [(0, 2), (9, 9)]), cost_of(hook, [(0, 2), (9, 9)]), length_of([]), length_of([(5, 5)])]
[6, 1, 4, 0, 4]
>>> [is_better([], hook, [(0, 2)]), is_better([(0, 2)], [], [(0, 2)]), is_better([], [], []), is_better([(0, 2)], [(0, 2), (0, 3)], [(0, 2)])]
[True, True, False, True]
>>> [united(hook, [(0, 3), (1, 2)]), shared(hook, [(0, 3), (1, 2)]), clipped(hook, 1, 3, 7), clipped(hook, 0, -5, 5), clipped(hook, 5, 3, 2)]
[((0, 2), (0, 3), (1, 2), (1, 3)), ((1, 2),), ((1, 3),), ((0, 2),), ()]
>>> [wall_text(hook), wall_text([]), wall_read("0 -2 / 1 3")]
['0 2 / 1 2 / 1 3', '-', ((0, -2), (1, 3))]
>>> wall_read("1 3 / 0 2")
raises BadText(0, 3)
>>> length_of([(0, 0), (-1, 0)])
raises Misfit('wall')
''',
    ),
    (
        "parts",
        '''\
>>> gate = [(0, 1), (0, 3), (1, 3), (1, 2)]
>>> [parts_of(gate), rooted(gate + [(3, 0), (2, 1)]), parts_of([(3, 0), (2, 1)])]
[(((0, 1),), ((0, 3), (1, 2), (1, 3))), ((0, 1), (0, 3), (1, 2), (1, 3)), (((2, 1),), ((3, 0),))]
>>> [holes_of(gate), holes_of(gate + [(1, 1)]), filled(gate + [(1, 1)])]
[(), (((0, 2),),), ((0, 1), (0, 2), (0, 3), (1, 1), (1, 2), (1, 3))]
>>> [length_of(gate), length_of(gate + [(1, 1)]), length_of(filled(gate + [(1, 1)]))]
[8, 8, 4]
''',
    ),
    (
        "lines",
        '''\
>>> [beside((2, 3), (0, 1)), beside([1, 4], [-1, 0]), beside((0, 0), (1, 0)), beside((0, 0), (0, -1))]
[((1, 2), (2, 2)), ((1, 3), (1, 4)), ((-1, 0), (-1, -1)), ((0, 0), (-1, 0))]
>>> [next_step(hook, (0, 2), (0, 1)), next_step(hook, (2, 2), (1, 0)), next_step(hook, (1, 3), (0, -1)), step_back(hook, (1, 2), (1, 0))]
[((1, 2), (1, 0), (0, 1)), ((2, 3), (0, 1), (2, 2)), ((0, 3), (-1, 0), (0, 3)), ((0, 2), (0, 1), (0, 1))]
>>> [whole_line(hook)[2:5], len(whole_line(hook))]
[(((1, 2), (1, 0), (0, 1)), ((2, 2), (1, 0), (1, 1)), ((2, 3), (0, 1), (2, 2))), 10]
>>> [steps_on(gate, (1, 1), (1, 0), 3), next_step(gate, (1, 2), (0, -1))]
[(((1, 2), (0, 1), (1, 1)), ((0, 2), (-1, 0), (0, 2)), ((0, 3), (0, 1), (0, 2))), ((2, 2), (1, 0), (1, 1))]
>>> [len(whole_line(gate)), len(whole_line(gate + [(1, 1)])), whole_line([])]
[12, 8, (((0, 1), (0, 1), (0, 0)),)]
>>> next_step(hook, (1, 1), (0, 1))
raises Misfit('step')
''',
    ),
    (
        "boards",
        '''\
>>> board, far = Board([], [], [(0, 5), (0, 3)]), Board([], [], [(5, 5)])
>>> mixed = Board([(0, 2)], [(1, 2)], [(1, 2), (3, 1), (-4, 9)])
>>> [board.burnt, box_of(board), box_of(far), box_of(mixed), box_of(Board([], [(7, 7)], [(7, 7), (-1, 0)]))]
[((0, 3), (0, 5)), (0, 3, 5), (5, 5, 5), (3, 1, 2), None]
>>> [mixed.is_passed((1, 2)), mixed.is_passed([0, -6]), mixed.is_passed((0, 1)), fits(mixed, [(2, 2), (0, 2)]), fits(mixed, [(0, 2), (1, 2)]), fits(mixed, [])]
[True, True, False, True, False, False]
>>> Board([(0, 0)], [], [])
raises Misfit('held')
>>> fits(board, [(-1, 2)])
raises Misfit('wall')
''',
    ),
    (
        "best",
        '''\
>>> [best_for(board).squares, cheapest_cost(board), best_for(far).squares, cheapest_cost(far), best_for(mixed).squares, cheapest_cost(mixed)]
[((0, 3), (0, 4), (0, 5)), -2, (), 0, ((0, 2),), 2]
>>> best_for(Board([], [], [(0, 1)])) == Best([(0, 1)], [[2]], [[-2], [2]])
True
>>> [best_for(Board([], [], [(7, 7), (7, 8), (8, 7), (8, 8)])).squares, best_for(Board([], [], [(2, 9), (3, 8)])).squares]
[((7, 7), (7, 8), (8, 7), (8, 8)), ()]
>>> [best_for(Board([], [(0, 4)], [(0, 3), (0, 5), (1, 4)])).squares, best_for(Board([], [], [(0, 3), (0, 5), (1, 4)])).squares]
[((0, 3), (0, 5)), ((0, 3), (0, 4), (0, 5), (1, 4))]
>>> best_for(Board([], [(3, 3)], [(3, 3)])) == Best([], [], [])
True
''',
    ),
    (
        "check_best",
        '''\
>>> row, low, high = [2, 2, 2, 2, 1, 2], [0, 0, 0, 0, 0, -2], [0, 0, 0, 0, 1, 2]
>>> [shows_best(far, Best([], [row], [low, high])), shows_best(far, Best([], [row], [high, low])), shows_best(far, Best([], [[2] * 6], [low, high])), shows_best(far, Best([(5, 5)], [row], [low, high]))]
[True, False, False, False]
>>> [shows_best(board, best_for(board)), shows_best(far, best_for(board)), shows_best(far, Best([], [], []))]
[True, False, False]
''',
    ),
)
