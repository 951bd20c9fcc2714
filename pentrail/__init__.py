"""Trails by rules: pentrail.world.answers is the way in."""
