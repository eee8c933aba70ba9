"""Walls, pipes and ducts of a building: what clashes, what lies too near, and the best ways between."""
