"""The examples of the document, section by section, as written there."""

EXAMPLES = (
    ("errors", r"""
"""),
    ("checks", r"""
>>> [is_bit(1), is_bit(True), is_turn(7), is_turn(8), is_amount([1, 0, -2, 5]), is_amount((1, 0, 0)), is_lot([4, 0]), is_lot([1, 1])]
[True, False, True, False, True, False, True, False]
>>> one, none = (1, 0, 0, 0), (0, 0, 0, 0)
>>> [is_spread([one, none]), is_spread([none, none]), is_spread([one]), is_spread([one, one, one]), is_spread(one)]
[True, False, True, False, False]
"""),
    ("papers", r"""
>>> note = Paper("note", [1, (2, [3])])
>>> [note.parts, bool(note), bool(Denial("no")), note == Denial("note", [1, (2, [3])]), fixed([[], {"a": [1]}])]
[((1, (2, (3,))),), True, False, False, ((), {'a': [1]})]
"""),
    ("amounts", r"""
>>> [added((1, 2, 0, 0), (0, 1, 0, -1)), multiplied((0, 1, 0, 0), (0, 0, 0, 1)), multiplied((1, 1, 0, 0), (1, 0, 0, -1)), turned((1, 2, 3, 4), 1), turned((1, 0, 0, 0), 4)]
[(1, 3, 0, -1), (-1, 0, 0, 0), (2, 1, 0, -1), (-4, 1, 2, 3), (-1, 0, 0, 0)]
>>> [length_of((1, 1, 0, 0)), length_of((0, 1, 0, -1)), length_of((0, 0, 0, 0)), mirrored((1, 2, 3, 4))]
[(2, 1), (2, 0), (0, 0), (1, -4, -3, -2)]
>>> turned((1, 0, 0, 0), 8)
raises BadNumber('turn')
"""),
    ("spreads", r"""
>>> two = even(2)
>>> [two, of_bits([0, 1]), length(two), places_in(two), tied(two, 0, 1)]
[((1, 0, 0, 0), (1, 0, 0, 0), (1, 0, 0, 0), (1, 0, 0, 0)), ((0, 0, 0, 0), (0, 0, 0, 0), (1, 0, 0, 0), (0, 0, 0, 0)), (4, 0), 2, ((1, 0, 0, 0), (1, 0, 0, 0), (1, 0, 0, 0), (-1, 0, 0, 0))]
>>> [mixed(even(1), 0), mixed(of_bits([1]), 0), exchanged(((1, 0, 0, 0), (0, 1, 0, 0)), 0), turned_at(two, 1, 3)[2], plain_form(((0, 0, 0, 0), (0, 2, 0, 0)))]
[((2, 0, 0, 0), (0, 0, 0, 0)), ((1, 0, 0, 0), (-1, 0, 0, 0)), ((0, 1, 0, 0), (1, 0, 0, 0)), (0, 0, 0, 1), ((0, 0, 0, 0), (1, 0, 0, 0))]
>>> knot = tied(two, 0, 1)
>>> [looked(knot, 0, 0, 0), looked(knot, 0, 0, 1), looked(even(1), 0, 0, 1), shares(knot, 0, 2), is_even(knot, 0, 2), is_even(even(1), 0, 0)]
[((2, 0, 0, 0), (0, 0, 0, 0)), ((0, 0, 0, 0), (2, 0, 0, 0)), None, ((4, 0), (4, 0)), True, False]
>>> [plain_form(((0, 1, 0, 0), (1, 0, 0, 0))), plain_form(((1, 1, 0, 0), (2, 0, 0, 0))), are_alike(even(1), ((0, 3, 0, 0), [0, 3, 0, 0])), placed(((1, 0, 0, 0), (2, 0, 0, 0), (3, 0, 0, 0), (4, 0, 0, 0)), [1, 0])[1]]
[((1, 0, 0, 0), (0, 0, 0, -1)), ((1, 0, 0, 0), (1, -1, 1, -1)), True, (3, 0, 0, 0)]
>>> beside(of_bits([1]), even(1))
((0, 0, 0, 0), (1, 0, 0, 0), (0, 0, 0, 0), (1, 0, 0, 0))
>>> looked(two, 2, 0, 0)
raises BadNumber('place')
"""),
    ("programs", r"""
>>> pair = Program(2, [("mix", 0), ["under", 0, 1], ("turn", 1, 3)])
>>> [pair.wires, pair.deeds, str(pair), Program.read(str(pair)) == pair]
[2, (('mix', 0), ('under', 0, 1), ('turn', 1, 3)), 'wires 2\nmix 0\nunder 0 1\nturn 1 3', True]
>>> three = Program(3, [("both", 0, 1, 2)])
>>> [basic(pair).deeds, odd_turns(pair), odd_turns(three), len(basic(three).deeds), basic(three).deeds[:5]]
[(('mix', 0), ('mix', 1), ('sign', 0, 1), ('mix', 1), ('turn', 1, 3)), 1, 7, 27, (('mix', 2), ('turn', 0, 1), ('turn', 1, 1), ('turn', 2, 1), ('mix', 1))]
>>> [undone(pair).deeds, aside(pair, Program(1, [("not", 0)])).deeds[2:], is_deed(("turn", 0, 8), 1), is_deed(["swap", 1, 0], 2)]
[(('turn', 1, 5), ('under', 0, 1), ('mix', 0)), (('turn', 1, 3), ('not', 2)), False, True]
>>> Program(2, [("sign", 1, 1)])
raises BadProgram('deeds')
>>> Program.read("wires 2\nmix 0\nunder 1 1")
raises BadText(2, 2)
>>> joined(pair, Program(1, []))
raises Misfit('wires')
"""),
    ("meanings", r"""
>>> meaning(pair, of_bits([0, 0]))
((1, 0, 0, 0), (0, 0, 0, 0), (0, 0, 0, 0), (0, 0, 0, 1))
>>> half = Program(1, [("mix", 0), ("turn", 0, 1), ("mix", 0)])
>>> [meaning(half, of_bits([0])), readings(half, of_bits([0])), readings(pair, of_bits([0, 0]))]
[((1, 0, 0, 0), (0, -1, 1, -1)), ((0, (1, 0)), (1, (3, -2))), ((0, (1, 0)), (3, (1, 0)))]
>>> [meaning(three, of_bits([1, 1, 1])) == of_bits([1, 1, 0]), meaning(joined(pair, undone(pair)), even(2)) == even(2)]
[True, True]
>>> meaning(pair, of_bits([0]))
raises Misfit('wires')
"""),
    ("nets", r"""
>>> chain, mid = Net(3, [(0, 1), (2, 1)], [0], [2], [(1, 0), (0, 1)]), Net(2, [(0, 1)], [1], [0], {1: 3})
>>> [chain.strings, chain.turns, chain.looked, neighbours(chain, 1), oddly_met(chain, [0, 2]), oddly_met(chain, [2, 1])]
[((0, 1), (1, 2)), ((0, 1), (1, 0)), (0, 1), (0, 2), (), (0, 1, 2)]
>>> str(chain).split("\n")
['things 3', 'given 0', 'kept 2', 'string 0 1', 'string 1 2', 'turn 0 1', 'turn 1 0']
>>> [Net.read(str(mid)) == mid, turn_of(mid, 1), with_turns(mid, [(1, 7)]).turns]
[True, 3, ((1, 7),)]
>>> both = joined_nets(chain, mid)
>>> [both.things, both.strings, both.given, both.kept, both.turns]
[4, ((0, 1), (1, 2), (2, 3)), (0,), (3,), ((0, 1), (1, 0), (2, 3))]
>>> [aside_nets(mid, chain).strings, aside_nets(mid, chain).given, aside_nets(mid, chain).kept]
[((0, 1), (2, 3), (3, 4)), (1, 2), (0, 4)]
>>> Net(2, [(0, 1), (1, 0)], [], [1], [(0, 0)])
raises BadNet('strings')
>>> Net.read("things 2\ngiven\nkept 1\nstring 0 1")
raises BadText(4, 0)
>>> joined_nets(chain, aside_nets(mid, mid))
raises Misfit('wires')
"""),
    ("looks", r"""
>>> zero, lone = [(1, 0, 0, 0), (0, 0, 0, 0)], Net(1, [], [], [], [(0, 0)])
>>> [amount[0] for amount in begun(chain, zero)]
[1, 0, 1, 0, 1, 0, -1, 0]
>>> [bare_end(chain, zero, [0, 1], falls) for falls in ([0, 0], [0, 1])]
[((1, 0, 0, 0), (0, 0, 0, 0)), ((0, 0, 0, 0), (1, 0, 0, 0))]
>>> [bare_lengths(chain, zero, (1, 0), (1, 0)), bare_end(chain, zero, (1, 0), (1, 0)) == bare_end(chain, zero, (0, 1), (0, 1))]
[((4, 0), (4, 0), (4, 0)), True]
>>> [bare_end(lone, [(1, 0, 0, 0)], [0], [fall]) for fall in (0, 1)] + [bare_lengths(lone, [(1, 0, 0, 0)], [0], [1])]
[((1, 0, 0, 0),), None, ((2, 0), (0, 0))]
>>> begun(chain, [(1, 0, 0, 0)])
raises Misfit('given')
>>> bare_end(chain, zero, [0], [0])
raises BadOrder('order')
"""),
    ("lots", r"""
>>> line, three = Net(3, [(0, 1), (1, 2)], [0], [2], {0: 1, 1: 2}), Net(3, [(0, 1), (1, 2), (0, 2)], [], [2], {0: 0, 1: 3})
>>> lots_of(line) == Lots([[0], [1]], [(0, [1]), (1, [2])]), lots_of(three) == Stuck([0, 1], [(0, [0, 1]), (1, [0, 1])])
(True, True)
>>> two = Net(4, [(0, 2), (1, 2), (1, 3)], [], [2, 3], {0: 1, 1: 1})
>>> [lots_of(two).layers, lots_of(two).lots, has_lots(two), has_lots(three)]
[((0, 1),), ((0, (2, 3)), (1, (3,))), True, False]
>>> [fewest(line) == Fewest([[0], [1]], [(0, [0])]), fewest(two) == Fewest([[0, 1]], []), lots_of(Net(2, [(0, 1)], [0, 1], [1], {0: 0})).left]
[True, True, (0,)]
>>> bare = Net(2, [(0, 1)], [1], [1, 0], [])
>>> [lots_of(bare) == Lots([], []), fewest(bare) == Fewest([], []), has_lots(bare)]
[True, True, True]
>>> fewest(three)
raises Misfit('lots')
"""),
    ("check_lots", r"""
>>> apart = Lots([[1], [0]], [(0, [2, 3]), (1, [3])])
>>> [shows_lots(two, value) for value in (apart, Lots([[0, 1]], [(0, [2]), (1, [3])]), Lots([[0], [1]], [(0, [2]), (1, [3])]), Lots([[1], [0]], [(0, [2]), (1, [3])]), Stuck([0], [(0, [0])]))]
[True, False, True, False, False]
>>> [shows_lots(three, Stuck([0, 1], [(0, [0, 1]), (1, [0, 1])])), shows_lots(three, Stuck([0], [(0, [0])])), shows_lots(line, Lots([[0, 1]], [(0, [1]), (1, [2])]))]
[True, False, False]
>>> [shows_fewest(line, Fewest([[0], [1]], value)) for value in ([(0, [0])], [(0, [0, 1])], [])]
[True, False, False]
"""),
    ("waits", r"""
>>> path = Net(3, [(0, 1), (1, 2)], [0], [2], {0: 1, 1: 3})
>>> steps = Lots([[0], [1]], [(0, [1]), (1, [2])])
>>> [waits(path, steps, thing) for thing in (0, 1, 2)]
[((), ()), ((0,), ()), ((1,), (0,))]
>>> [is_let(path, steps, [0, 1]), is_let(path, steps, [1, 0]), is_let(path, steps, [0]), first_order(path, steps)]
[True, False, False, (0, 1)]
>>> [most_live(path, [0, 1]), most_live(path, [1, 0])]
[2, 3]
>>> waits(path, Lots([[1], [0]], [(0, [1]), (1, [2])]), 0)
raises BadLots('paper')
"""),
    ("runs", r"""
>>> [turn_now(path, steps, 1, [(0, 0)]), turn_now(path, steps, 1, [(0, 1)]), turn_now(path, steps, 0, [])]
[3, 5, 1]
>>> plain = Net(3, [(0, 1), (1, 2)], [0], [2], {0: 0, 1: 0})
>>> [end_of(plain, steps, [(3, 0, 0, 0), (0, 1, 0, 0)], [0, 1], falls) for falls in ([0, 0], [1, 1])]
[((3, 0, 0, 0), (0, 1, 0, 0)), ((3, 0, 0, 0), (0, 1, 0, 0))]
>>> [end_of(path, steps, [(1, 0, 0, 0), (0, 0, 0, 0)], (0, 1), (0, 1)), end_of(path, steps, [(1, 0, 0, 0), (1, 0, 0, 0)], (0, 1), (1, 0))]
[((1, 0, 0, 0), (0, -1, -1, -1)), ((3, 0, 0, 0), (0, 1, -1, -1))]
>>> turn_now(path, steps, 1, [(1, 0)])
raises Misfit('falls')
>>> turn_now(path, steps, 1, {0: 1, 2: 0})
raises BadFalls('falls')
"""),
    ("players", r"""
>>> player = Player(path, steps, [(1, 0, 0, 0), (1, 0, 0, 0)])
>>> [player.live, player.length, player.ready(), player.look(0, 1), player.live, player.length]
[(0,), (2, 0), (0,), 1, (1,), (4, 0)]
>>> [player.asks(1), player.look(1, 0), player.heard, player.live, player.most, player.length]
[5, 5, ((0, 1), (1, 0)), (2,), 2, (8, 0)]
>>> [player.end(), player.length]
[((3, 0, 0, 0), (0, 1, -1, -1)), (8, 0)]
>>> player.look(0, 0)
raises Twice(0)
"""),
    ("made", r"""
>>> small = Program(2, [("mix", 0), ("turn", 0, 1), ("sign", 0, 1), ("mix", 1)])
>>> net = net_of(small)
>>> [net.things, net.strings, net.given, net.kept, net.turns]
[6, ((0, 2), (1, 2), (1, 3), (2, 4), (4, 5)), (0, 1), (5, 3), ((0, 0), (1, 0), (2, 1), (4, 0))]
>>> [lots_for(small).layers, lots_for(small).lots]
[((0,), (1, 2), (4,)), ((0, (2,)), (1, (3,)), (2, (4,)), (4, (5,)))]
>>> net_of(Program(1, [("turn", 0, 3), ("turn", 0, 5)])) == Net(1, [], [0], [0], [])
True
"""),
    ("walls", r"""
>>> wall = shape(2, 1)
>>> [wall.things, wall.strings, wall.given, wall.kept, wall.turns[7]]
[10, ((0, 2), (1, 3), (2, 4), (3, 5), (4, 5), (4, 6), (5, 7), (6, 8), (7, 9), (8, 9)), (0, 1), (8, 9), (7, 0)]
>>> [wall_lots(2, 1).layers, wall_lots(2, 1).lots[6], paired(4, 0), paired(4, 1), paired(2, 1), len(shape(3, 4).strings)]
[((0, 1), (2, 3), (4, 5), (6, 7)), (6, (8,)), ((0, 1), (2, 3)), ((1, 2),), (), 56]
>>> shape(4, 8)
raises TooMany('things', 120)
"""),
    ("bricks", r"""
>>> pair = Program(2, [("sign", 0, 1)])
>>> [bricks_of(pair), columns_of(pair)]
[(('mix', 1), ('under', 0, 1), ('mix', 1)), (0, 2, 3)]
>>> [words_of(pair, 4)[0], words_of(pair, 4)[1], words_of(pair, 4)[2]]
[((0, 0, 0, 0), (2, 2, 2, 0)), ((0, 0, 0, 0), (0, 0, 0, 0)), ((2, 0, 0, 0), (0, 2, 0, 6))]
>>> [bricks_in(words_of(pair, 6)) == bricks_of(pair), columns_of(Program(3, [("under", 0, 2), ("not", 1)])), bricks_in([[[3, 0, 0, 0], [2, 2, 2, 0]]])]
[True, (0, 2, 4, 5, 6, 8, 10, 11, 12, 13), (('turn', 0, 3), ('mix', 1))]
>>> [wall_of(pair, 4).turns[:4], wall_of(pair, 4).strings == shape(2, 4).strings]
[((0, 0), (1, 2), (2, 0), (3, 2)), True]
>>> words_of(pair, 3)
raises TooMany('columns', 3)
>>> bricks_in([[[0, 0, 0, 0], [0, 2, 0, 6]]])
raises BadProgram('words')
"""),
    ("lesser", r"""
>>> short = Net(4, [(0, 1), (1, 2), (2, 3)], [0], [3], [(0, 1), (1, 2), (2, 4)])
>>> less = Net(3, [(0, 1), (1, 2)], [0], [2], [(0, 7), (1, 2)])
>>> [may_quarter(short, 1), may_quarter(short, 2), quarter(short, 1) == less, may_quarter(less, 1), lesser(short) == Lesser([("quarter", 1)], less), odd_in(short), odd_in(less)]
[True, False, True, False, True, 1, 1]
>>> long = Net(6, [(0, 1), (1, 2), (2, 3), (3, 4), (4, 5)], [0], [5], [(0, 1), (1, 0), (2, 4), (3, 3), (4, 1)])
>>> [may_pair(long, 2, 1), may_pair(long, 1, 1), pair(long, 1, 2) == Net(4, [(0, 1), (1, 2), (2, 3)], [0], [3], [(0, 5), (1, 3), (2, 1)]), lesser(long).steps]
[True, False, True, (('pair', 1, 2),)]
>>> pair(Net(4, [(0, 1), (0, 2), (1, 2), (2, 3)], [], [3], [(0, 0), (1, 4), (2, 1)]), 0, 1) == Net(2, [(0, 1)], [], [1], [(0, 1)])
True
>>> quarter(Net(5, [(0, 1), (0, 2), (0, 3), (1, 2), (3, 4)], [1], [4], [(0, 6), (1, 1), (2, 3), (3, 0)]), 0) == Net(4, [(0, 2), (1, 2), (2, 3)], [0], [3], [(0, 3), (1, 5), (2, 2)])
True
>>> [may_quarter(Net(1, [], [], [], [(0, 2)]), 0), may_pair(Net(2, [(0, 1)], [], [], [(0, 0), (1, 4)]), 0, 1), may_quarter(Net(2, [], [], [], [(0, 2), (1, 1)]), 0)]
[False, False, True]
>>> quarter(short, 2)
raises Misfit('thing')
>>> may_pair(short, 1, 4)
raises BadNumber('other')
"""),
    ("check_lesser", r"""
>>> [shows_lesser(short, value) for value in (Lesser([["quarter", 1]], less), Lesser([], short), Lesser([("quarter", 1)], short), Lesser([("quarter", 2)], less), Lesser([("pair", 1, 2)], less))]
[True, False, False, False, False]
>>> [shows_lesser(less, Lesser([], less)), shows_lesser(less, None)]
[True, False]
"""),
    ("houses", r"""
>>> both = Net(4, [(0, 2), (1, 3)], [0, 1], [2, 3], [(0, 1), (1, 3)])
>>> right, nought = Lots([[0, 1]], [(0, [2]), (1, [3])]), (0, 0, 0, 0)
>>> [waves(both, right), rounds(both, right, 1), rounds(both, right, 2)]
[((0, 1),), ((0,), (1,)), ((0, 1),)]
>>> house = House(both, right, [(1, 0, 0, 0), nought, nought, nought], 2)
>>> [house.give(0), house.give(1), house.give(hand=0), house.held, house.hears(1, 1), house.held, house.give(1)]
[(0, 1), (1, 3), (0, 1), (0, 1), True, (0, None), None]
>>> [house.lost(0), house.give(1), house.hears(thing=0, fall=0), house.hears(0, 0), house.done, house.order, house.known]
[0, (0, 1), True, False, True, (1, 0), ((0, 0), (1, 1))]
>>> late = House(both, right, [(1, 0, 0, 0), nought, nought, nought], 2)
>>> [late.give(1), late.lost(1), late.give(0), late.hears(0, 1), late.held, late.give(1), late.hears(0, 1)]
[(0, 1), 0, (0, 1), True, (None, None), (1, 3), False]
>>> house.end()
((1, 0, 0, 0), (1, 0, 0, 0), (1, 0, 0, 0), (1, 0, 0, 0))
>>> house.hears(2, 0)
raises NoName(2)
>>> house.hears(0, 1)
raises Twice(0)
>>> chain = House(Net(3, [(0, 1), (1, 2)], [0], [2], [(0, 1), (1, 3)]), Lots([[0], [1]], [(0, [1]), (1, [2])]), [(1, 0, 0, 0), nought], 2)
>>> [chain.give(0), chain.give(1), chain.hears(0, 1), chain.give(1)]
[(0, 1), None, True, (1, 5)]
>>> chain.end()
raises Nothing
"""),
    ("askers", r"""
>>> pair, paper = Net(2, [(0, 1)], [], [1], [(0, 1)]), Lots([[0]], [(0, [1])])
>>> asker = Asker(pair, paper, [(3, 1), (5, 0)])
>>> [asker.sent, asker.ready(), asker.asks(0), asker.asks(thing=1), asker.hears(0, 1), asker.ready(), asker.book]
[(3, 5), (0, 1), 2, 3, None, (1,), ((0, 2, 1),)]
>>> [asker.hears(1, 1), asker.bits(), asker.book[1]]
[None, (1,), (1, 3, 1)]
>>> asked = asked_net(Program(1, [("turn", 0, 1), ("mix", 0)]))
>>> [asked.things, asked.strings, asked.given, asked.kept, asked.turns]
[3, ((0, 1), (1, 2)), (), (2,), ((0, 1), (1, 0))]
>>> asker.asks(0)
raises Twice(0)
>>> Asker(Net(1, [], [0], [0], []), Lots([], []), [(0, 0)])
raises Misfit('given')
"""),
    ("strangers", r"""
>>> stranger = Stranger(2, [(0, 1)], [3, 5])
>>> [stranger.length, stranger.looks(0, 2, 1), stranger.left, stranger.length, stranger.looks(1, 3, 1), stranger.left, stranger.length]
[(4, 0), None, (1,), (4, 0), None, (), (4, 0)]
>>> lone = Stranger(1, [], [0])
>>> lone.looks(0, 0, 1)
raises Misfit('fall')
"""),
    ("ways", r"""
>>> ways_to(pair, paper, (2, 3), (1, 1))
(((3, 1), (1, 1)), ((3, 1), (5, 0)), ((7, 0), (1, 1)), ((7, 0), (5, 0)))
>>> [len(ways_to(with_turns(pair, [(0, turn)]), paper, (2, 3), (1, 1))) for turn in (0, 1, 2)]
[4, 4, 4]
"""),
    ("pictures", r"""
>>> bell = Program(2, [("mix", 0), ("under", 0, 1)])
>>> net, paper = net_of(bell), lots_for(bell)
>>> picture(net, paper)
('0 0.. > 2', '1 0.. > 3', '2 ..= - 0 3', '3 .0. - 1 2 4', '4 ..= - 3')
>>> [course(net, paper, [(1, 0), (0, 1), (3, 1)]), course(net, paper, [])]
[('1 turn 0 now 0 fall 0', '0 turn 0 now 0 fall 1', '3 turn 0 now 4 fall 1'), ()]
>>> course(net, paper, [(0, 0), (3, 0)])
raises Misfit('heard')
"""),
    ("desk", r"""
>>> desk = Desk(2)
>>> [desk.tell(line) for line in ("mix 0", "under 0 1", "net 0 0", "ready", "look 0 1", "look 1 1", "ask 3", "live", "look 3 0", "end")]
['1', '2', '5 4 2', '0 1', '0', '0', '4', '2 3 : 3', '4', '0 1 0 / 3 1 0']
>>> [desk.tell("undo"), desk.tell("course"), desk.tell("again"), desk.tell("program"), len(desk.log)]
['look 3 0', '0 turn 0 now 0 fall 1 / 1 turn 0 now 0 fall 1', '4', 'mix 0 / under 0 1', 6]
>>> desk.tell("mix 1")
raises Misfit('net')
>>> desk.tell("under 0 0")
raises BadText(0, 2)
>>> desk.tell("look 0 1")
raises Twice(0)
>>> desk.tell("again")
raises Nothing
"""),
    ("scripts", r"""
>>> played(1, ["mix 0", "turn 0 2", "mix 0", "mix 0", "net 0", "lesser", "picture", "log"])[4:]
('4 3 3', '3 2 2', '0 6.. > 1 / 1 .6. - 0 2 / 2 ..= - 1', 'mix 0 / turn 0 2 / mix 0 / mix 0 / net 0 / lesser')
>>> played(1, ["mix 0", "look 0 0"])
raises BadLine
"""),
)
