"""Grades: a weight above 0 for each cell, by which both sides of a change weigh alike."""

from sumroads.kernels import columns_of


def grades_of(frame):
    return tuple([sum(column) for column in columns_of(frame)])
