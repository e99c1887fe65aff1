"""Packets in the mesh: cycles, queues and deliveries (points 03.2, 03.4, 03.5 and 03.6)."""

import copy
import unittest

from made_chips import TrafficByTheWords, deliver_by_the_words, made_mesh, made_packets
from made_networks import Numbers
from spikehold.mesh import Mesh, Traffic, deliver, distance


def traffic_with(mesh, packets):
    traffic = Traffic(mesh)
    for core, destination, source in packets:
        traffic.put(core, (destination, source))
    return traffic


def cycles_of(traffic, late=()):
    """Return the deliveries of each cycle until nothing waits; late packets are put after the first cycle."""
    told = [traffic.cycle()]
    for core, destination, source in late:
        traffic.put(core, (destination, source))
    while traffic.waiting():
        told.append(traffic.cycle())
    return told


class OnePacketTest(unittest.TestCase):
    def test_the_moves_of_a_packet(self):
        for core, destination in ((0, 5), (5, 0), (2, 3), (3, 2)):
            traffic = traffic_with(Mesh(3, 2, 1), [(core, destination, 7)])
            self.assertEqual(cycles_of(traffic), [[], [], [], [], [(destination, 7)]])

    def test_it_makes_one_move_in_each_cycle_in_all_directions(self):
        for mesh, last in ((Mesh(8, 1, 1), 7), (Mesh(1, 8, 1), 7), (Mesh(8, 8, 1), 63)):
            moves = distance(mesh, 0, last) + 2
            self.assertEqual(deliver(mesh, [(0, last, 3)]), (moves, [(last, 3)]))
            self.assertEqual(deliver(mesh, [(last, 0, 3)]), (moves, [(0, 3)]))

    def test_from_a_core_to_itself(self):
        self.assertEqual(cycles_of(traffic_with(Mesh(1, 1, 1), [(0, 0, 7)])), [[], [(0, 7)]])

    def test_put_returns_nothing(self):
        self.assertIsNone(Traffic(Mesh(1, 1, 1)).put(0, (0, 7)))

    def test_waiting_counts_outboxes_and_queues(self):
        traffic = Traffic(Mesh(2, 1, 1))
        self.assertEqual(traffic.waiting(), 0)
        traffic.put(0, (1, 7))
        traffic.put(0, (1, 8))
        traffic.put(1, (1, 9))
        self.assertEqual(traffic.waiting(), 3)
        told = []
        while traffic.waiting():
            traffic.cycle()
            told.append(traffic.waiting())
        self.assertEqual(told, [3, 2, 1, 1, 0])

    def test_a_cycle_without_packets(self):
        traffic = Traffic(Mesh(2, 2, 1))
        self.assertEqual(traffic.cycle(), [])
        self.assertEqual(traffic.waiting(), 0)

    def test_a_mesh_is_used_again_after_it_was_empty(self):
        traffic = traffic_with(Mesh(2, 1, 1), [(0, 1, 7)])
        self.assertEqual(cycles_of(traffic), [[], [], [(1, 7)]])
        traffic.put(1, (0, 8))
        self.assertEqual(cycles_of(traffic), [[], [], [(0, 8)]])

    def test_two_meshes_have_their_own_packets(self):
        mesh = Mesh(2, 1, 1)
        one, other = Traffic(mesh), Traffic(mesh)
        one.put(0, (1, 7))
        self.assertEqual([one.waiting(), other.waiting()], [1, 0])


class RoomTest(unittest.TestCase):
    def test_an_outbox_waits_for_room_at_the_beginning_of_the_cycle(self):
        packets = [(0, 0, 7), (0, 0, 8)]
        self.assertEqual(cycles_of(traffic_with(Mesh(1, 1, 1), packets)), [[], [(0, 7)], [], [(0, 8)]])
        self.assertEqual(cycles_of(traffic_with(Mesh(1, 1, 2), packets)), [[], [(0, 7)], [(0, 8)]])

    def test_a_queue_that_is_full_at_the_beginning_takes_nothing_even_if_one_leaves(self):
        # The packet 8 leaves the queue that the packet 7 wants, in the same cycle.
        for cores in ((0, 1, 2), (2, 1, 0)):
            packets = [(cores[0], cores[2], 7), (cores[1], cores[2], 8)]
            for shape in ((3, 1), (1, 3)):
                self.assertEqual(cycles_of(traffic_with(Mesh(*shape, 1), packets)),
                                 [[], [], [(cores[2], 8)], [], [(cores[2], 7)]])
                self.assertEqual(cycles_of(traffic_with(Mesh(*shape, 2), packets)),
                                 [[], [], [(cores[2], 8)], [(cores[2], 7)]])

    def test_a_core_gives_one_packet_in_each_cycle(self):
        for room in range(1, 9):
            packets = [(0, 0, k) for k in range(20)]
            cycles = 40 if room == 1 else 21
            self.assertEqual(deliver(Mesh(1, 1, room), packets), (cycles, [(0, k) for k in range(20)]))

    def test_a_queue_holds_as_many_packets_as_it_has_room(self):
        # A stream from the north holds back the queue from the south, so that this one fills up. The packet 99
        # comes home as soon as all packets before it have left the core 2.
        for room in range(2, 9):
            stream = [(0, 1, 50)] * 30
            for many, cycle in ((room, room + 2), (room + 1, 30 + 5)):
                packets = stream + [(2, 1, k) for k in range(many)] + [(2, 2, 99)]
                told = cycles_of(traffic_with(Mesh(1, 3, room), packets))
                self.assertEqual([k + 1 for k, row in enumerate(told) if (2, 99) in row], [cycle])


class OrderTest(unittest.TestCase):
    def test_the_order_of_the_queues_on_the_way_home(self):
        packets = [(5, 4, 13), (3, 4, 12), (7, 4, 11), (1, 4, 10)]
        told = cycles_of(traffic_with(Mesh(3, 3, 1), packets), [(4, 4, 14)])
        self.assertEqual(told, [[], [], [(4, 10)], [(4, 11)], [(4, 12)], [(4, 13)], [(4, 14)]])

    def test_the_order_of_the_queues_on_the_way_north_and_south(self):
        for beside, last in ((7, 1), (1, 7)):
            packets = [(5, last, 13), (3, last, 12), (beside, last, 11)]
            told = cycles_of(traffic_with(Mesh(3, 3, 4), packets), [(4, last, 14)])
            self.assertEqual(told, [[], [], [], [(last, 11)], [(last, 12)], [(last, 13)], [(last, 14)]])

    def test_the_order_of_the_queues_on_the_way_west_and_east(self):
        for first, last in ((2, 0), (0, 2)):
            told = cycles_of(traffic_with(Mesh(3, 1, 4), [(first, last, 13)]), [(1, last, 14)])
            self.assertEqual(told, [[], [], [], [(last, 13)], [(last, 14)]])

    def test_one_packet_goes_each_way_in_one_cycle(self):
        packets = [(1, 4, 10), (3, 5, 11), (5, 3, 12), (7, 1, 13)]
        told = cycles_of(traffic_with(Mesh(3, 3, 1), packets), [(4, 7, 14)])
        self.assertEqual(told, [[], [], [(4, 10)], [(1, 13), (3, 12), (5, 11), (7, 14)]])

    def test_a_packet_behind_the_first_one_of_its_queue_waits(self):
        # The packet 21 could go on to the east, but the packet 20 before it waits for those from the north.
        packets = [(1, 4, 10), (1, 4, 11), (3, 4, 20), (3, 5, 21)]
        told = cycles_of(traffic_with(Mesh(3, 3, 2), packets))
        self.assertEqual(told, [[], [], [(4, 10)], [(4, 11)], [(4, 20)], [], [(5, 21)]])

    def test_the_chosen_packet_keeps_the_others_back_even_if_it_cannot_go(self):
        # The queue from the west of the core 2 is full of the packet 30 when the packets 31 and 32 want it.
        packets = [(0, 2, 31), (1, 2, 30), (1, 2, 32)]
        told = cycles_of(traffic_with(Mesh(3, 1, 1), packets))
        self.assertEqual([row for row in told if row], [[(2, 30)], [(2, 31)], [(2, 32)]])

    def test_deliveries_are_in_ascending_order_of_the_cores(self):
        packets = [(core, core, 100 - core) for core in reversed(range(12))]
        told = cycles_of(traffic_with(Mesh(4, 3, 1), packets))
        self.assertEqual(told, [[], [(core, 100 - core) for core in range(12)]])


class DeliverTest(unittest.TestCase):
    def test_the_examples(self):
        mesh = Mesh(3, 2, 1)
        self.assertEqual(deliver(mesh, [(0, 5, 7)]), (5, [(5, 7)]))
        self.assertEqual(deliver(mesh, [(0, 0, 7), (0, 0, 8)]), (4, [(0, 7), (0, 8)]))

    def test_no_packets(self):
        for mesh in (Mesh(1, 1, 1), Mesh(3, 2, 4)):
            self.assertEqual(deliver(mesh, []), (0, []))

    def test_kinds_of_values(self):
        found = deliver(Mesh(2, 1, 1), [(0, 1, 7)])
        self.assertIs(type(found), tuple)
        self.assertEqual([type(value) for value in found], [int, list])
        self.assertIs(type(found[1][0]), tuple)
        self.assertIs(type(Traffic(Mesh(1, 1, 1)).cycle()), list)

    def test_packets_from_one_core_to_one_destination_keep_their_order(self):
        for room in range(1, 9):
            sources = [5, 3, 9, 3, 0, 7]
            _, deliveries = deliver(Mesh(3, 3, room), [(0, 8, source) for source in sources])
            self.assertEqual(deliveries, [(8, source) for source in sources])

    def test_packets_keep_their_order_among_others(self):
        for seed in range(100):
            numbers = Numbers(seed)
            mesh = made_mesh(numbers)
            ways = made_packets(numbers, mesh, 40)
            packets = [(core, destination, k) for k, (core, destination, _) in enumerate(ways)]
            _, deliveries = deliver(mesh, packets)
            for core, destination, _ in packets:
                put = [k for one, other, k in packets if (one, other) == (core, destination)]
                self.assertEqual([k for other, k in deliveries if other == destination and k in put], put)

    def test_all_cores_send_to_one(self):
        for mesh in (Mesh(4, 4, 1), Mesh(5, 1, 1), Mesh(1, 5, 3), Mesh(8, 8, 8)):
            for target in (0, mesh.cores() // 2, mesh.cores() - 1):
                packets = [(core, target, core) for core in range(mesh.cores())]
                cycles, deliveries = deliver(mesh, packets)
                self.assertEqual(sorted(deliveries), [(target, core) for core in range(mesh.cores())])
                self.assertEqual((cycles, deliveries), deliver_by_the_words(mesh, packets))

    def test_equal_packets_are_all_delivered(self):
        _, deliveries = deliver(Mesh(2, 2, 1), [(0, 3, 7)] * 5)
        self.assertEqual(deliveries, [(3, 7)] * 5)

    def test_the_packets_that_were_passed_stay(self):
        mesh, packets = Mesh(2, 2, 1), [(0, 3, 7), (3, 0, 8), (0, 0, 9)]
        before = list(packets)
        first = deliver(mesh, packets)
        self.assertEqual(packets, before)
        self.assertEqual(mesh, Mesh(2, 2, 1))
        first[1].append((9, 9))
        self.assertEqual(deliver(mesh, packets)[1], first[1][:-1])


class ManyPacketsTest(unittest.TestCase):
    def test_cycles_are_as_the_words_tell(self):
        for seed in range(250):
            numbers = Numbers(seed)
            mesh = made_mesh(numbers)
            one, other = Traffic(mesh), TrafficByTheWords(mesh)
            with self.subTest(seed=seed):
                for _ in range(40):
                    for core, destination, source in made_packets(numbers, mesh, numbers.below(mesh.cores() + 2)):
                        one.put(core, (destination, source))
                        other.put(core, (destination, source))
                    self.assertEqual(one.cycle(), other.cycle())
                    self.assertEqual(one.waiting(), other.waiting())

    def test_all_rooms_with_packets_to_few_destinations(self):
        told = set()
        for room in range(1, 9):
            mesh = Mesh(3, 4, room)
            numbers = Numbers(77)
            packets = [(numbers.below(12), 4 + numbers.below(3), k) for k in range(150)]
            found = deliver(mesh, packets)
            self.assertEqual(found, deliver_by_the_words(mesh, packets))
            told.add(str(found))
        # The rooms would not be tested if they made no difference.
        self.assertEqual(len(told), 8)

    def test_the_cycles_lie_between_the_longest_way_and_the_sum_of_all(self):
        for seed in range(300):
            numbers = Numbers(seed)
            mesh = made_mesh(numbers)
            packets = made_packets(numbers, mesh, numbers.between(1, 30))
            moves = [distance(mesh, core, destination) + 2 for core, destination, _ in packets]
            before = copy.deepcopy(packets)
            cycles, deliveries = deliver(mesh, packets)
            self.assertTrue(max(moves) <= cycles <= sum(moves), (mesh, packets))
            self.assertEqual(sorted(deliveries), sorted((to, source) for _, to, source in packets))
            self.assertEqual(packets, before)


if __name__ == "__main__":
    unittest.main()
