"""Platerest: plates of triangles at rest, told exactly."""
