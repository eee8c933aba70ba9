"""Walls, pipes and ducts of a building: what clashes, and what lies too near."""
