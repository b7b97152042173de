"""Cones between two ways in the plane, their least points and their sails."""
