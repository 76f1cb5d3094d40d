import unittest

from skidblame.graphs import first_way, gaining_ring, greatest_sums, way_back


def gain_of(graph, way):
    return sum(graph[node][goal] for node, goal in zip(way, way[1:]))


class Graphs(unittest.TestCase):
    tree = {0: {1: 5, 2: -3}, 1: {3: -9}, 2: {3: 1}, 3: {}, 4: {0: 100}}
    ring = {0: {1: 0}, 1: {2: 2}, 2: {3: 2}, 3: {1: -3, 4: 0}, 4: {4: -1}}

    def test_greatest_sums(self):
        sums, ahead = greatest_sums(self.tree, 0)
        self.assertEqual({0: 0, 1: 5, 2: -3, 3: -2}, sums)
        self.assertEqual([[0], [0, 1], [0, 2], [0, 2, 3]], [way_back(ahead, node) for node in range(4)])

    def test_what_is_far_off_and_listed_the_wrong_way_round(self):
        graph = {node: {node - 1: 1} if node else {} for node in range(9)}
        sums, ahead = greatest_sums(graph, 8)
        self.assertEqual({node: 8 - node for node in range(9)}, sums)
        self.assertEqual(list(range(8, -1, -1)), way_back(ahead, 0))

    def test_a_ring_that_gains(self):
        self.assertIsNone(greatest_sums(self.ring, 0))
        ring = gaining_ring(self.ring, 0)
        self.assertEqual((ring[0], [1, 2, 3]), (ring[-1], sorted(ring[1:])))
        self.assertEqual(1, gain_of(self.ring, ring))

    def test_rings_that_do_not_gain(self):
        for back in (-4, -5):
            graph = {**self.ring, 3: {1: back, 4: 0}}
            self.assertIsNone(gaining_ring(graph, 0))
            self.assertEqual({0: 0, 1: 0, 2: 2, 3: 4, 4: 4}, greatest_sums(graph, 0)[0])

    def test_a_ring_of_one_node(self):
        graph = {0: {1: -7}, 1: {1: 1}}
        self.assertIsNone(greatest_sums(graph, 0))
        self.assertEqual([1, 1], gaining_ring(graph, 0))

    def test_a_ring_that_start_does_not_lead_to(self):
        graph = {0: {1: 0}, 1: {}, 2: {3: 1}, 3: {2: 1, 1: 50}}
        self.assertIsNone(gaining_ring(graph, 0))
        self.assertEqual({0: 0, 1: 0}, greatest_sums(graph, 0)[0])

    def test_first_way(self):
        self.assertEqual([0, 1], first_way(self.ring, 0, 1))
        self.assertEqual([0, 1, 2, 3, 4], first_way(self.ring, 0, 4))
        self.assertIn(first_way(self.tree, 0, 3), ([0, 1, 3], [0, 2, 3]))


if __name__ == "__main__":
    unittest.main()
