"""Families of sets: joined, met, apart. The calls stand in setfamilies.families."""
