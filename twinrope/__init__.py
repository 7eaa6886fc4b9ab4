"""Twinrope: guests on ropes with a red and a blue car at unlike ends."""
