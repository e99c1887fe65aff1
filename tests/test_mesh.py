"""Meshes, distances and ways (points 03.1, 03.3 and 03.5)."""

import unittest

from spikehold.mesh import Mesh, distance, way

STEPS = {"west": (-1, 0), "east": (1, 0), "north": (0, -1), "south": (0, 1)}


def all_meshes():
    return [Mesh(width, height, 1) for width in range(1, 6) for height in range(1, 6)] + [Mesh(8, 8, 8)]


def pairs_of_cores(mesh):
    return [(first, second) for first in range(mesh.cores()) for second in range(mesh.cores())]


def after_step(mesh, core, going):
    """Return the router one step further, by its column and row."""
    x, y = core % mesh.width + STEPS[going][0], core // mesh.width + STEPS[going][1]
    assert 0 <= x < mesh.width and 0 <= y < mesh.height
    return y * mesh.width + x


class MeshTest(unittest.TestCase):
    def test_attributes(self):
        mesh = Mesh(3, 2, 4)
        self.assertEqual((mesh.width, mesh.height, mesh.room), (3, 2, 4))

    def test_names_of_the_arguments(self):
        self.assertEqual(Mesh(width=3, height=2, room=4), Mesh(3, 2, 4))

    def test_cores(self):
        for width, height in ((1, 1), (1, 8), (8, 1), (3, 2), (8, 8)):
            for room in (1, 8):
                self.assertEqual(Mesh(width, height, room).cores(), width * height)


class WayTest(unittest.TestCase):
    def test_the_example(self):
        mesh = Mesh(3, 2, 1)
        self.assertEqual([way(mesh, 0, 5), way(mesh, 2, 5), way(mesh, 5, 5)], ["east", "south", "home"])

    def test_from_the_middle(self):
        # The columns are looked at before the rows.
        expected = [
            "west", "north", "east",
            "west", "home", "east",
            "west", "south", "east",
        ]
        self.assertEqual([way(Mesh(3, 3, 1), 4, core) for core in range(9)], expected)

    def test_in_a_mesh_that_is_wider_than_high(self):
        self.assertEqual([way(Mesh(4, 2, 1), 2, core) for core in range(8)],
                         ["west", "west", "home", "east", "west", "west", "south", "east"])
        self.assertEqual([way(Mesh(4, 2, 1), 5, core) for core in range(8)],
                         ["west", "north", "east", "east", "west", "home", "east", "east"])

    def test_in_one_row(self):
        self.assertEqual([way(Mesh(4, 1, 1), 2, core) for core in range(4)], ["west", "west", "home", "east"])

    def test_in_one_column(self):
        self.assertEqual([way(Mesh(1, 4, 1), 2, core) for core in range(4)], ["north", "north", "home", "south"])

    def test_in_one_router(self):
        self.assertEqual(way(Mesh(1, 1, 1), 0, 0), "home")

    def test_home_exactly_at_the_destination(self):
        for mesh in all_meshes():
            for first, second in pairs_of_cores(mesh):
                self.assertEqual(way(mesh, first, second) == "home", first == second)

    def test_no_way_leads_out_of_the_column_of_the_destination(self):
        for mesh in all_meshes():
            for first, second in pairs_of_cores(mesh):
                if first % mesh.width != second % mesh.width:
                    self.assertIn(way(mesh, first, second), ("west", "east"))


class DistanceTest(unittest.TestCase):
    def test_by_hand(self):
        mesh = Mesh(3, 2, 1)
        self.assertEqual([distance(mesh, 0, core) for core in range(6)], [0, 1, 2, 1, 2, 3])
        self.assertEqual([distance(mesh, 4, core) for core in range(6)], [2, 1, 2, 1, 0, 1])
        self.assertEqual([distance(mesh, 2, core) for core in range(6)], [2, 1, 0, 3, 2, 1])

    def test_in_one_row_in_one_column_and_in_one_router(self):
        self.assertEqual([distance(Mesh(5, 1, 1), 1, core) for core in range(5)], [1, 0, 1, 2, 3])
        self.assertEqual([distance(Mesh(1, 5, 1), 1, core) for core in range(5)], [1, 0, 1, 2, 3])
        self.assertEqual(distance(Mesh(1, 1, 1), 0, 0), 0)

    def test_across_the_largest_mesh(self):
        self.assertEqual(distance(Mesh(8, 8, 1), 0, 63), 14)
        self.assertEqual(distance(Mesh(8, 8, 1), 7, 56), 14)

    def test_the_same_in_both_directions_and_none_to_itself(self):
        for mesh in all_meshes():
            for first, second in pairs_of_cores(mesh):
                self.assertEqual(distance(mesh, first, second), distance(mesh, second, first))
                self.assertEqual(distance(mesh, first, second) == 0, first == second)

    def test_one_less_after_each_step_until_home(self):
        for mesh in all_meshes():
            for first, second in pairs_of_cores(mesh):
                here, left = first, distance(mesh, first, second)
                while way(mesh, here, second) != "home":
                    here = after_step(mesh, here, way(mesh, here, second))
                    left -= 1
                    self.assertEqual(distance(mesh, here, second), left)
                self.assertEqual((here, left), (second, 0))

    def test_the_room_has_no_part_in_it(self):
        for first, second in pairs_of_cores(Mesh(3, 2, 1)):
            self.assertEqual(distance(Mesh(3, 2, 8), first, second), distance(Mesh(3, 2, 1), first, second))
            self.assertEqual(way(Mesh(3, 2, 8), first, second), way(Mesh(3, 2, 1), first, second))


if __name__ == "__main__":
    unittest.main()
