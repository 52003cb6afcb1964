"""Endshare: records shared by two hands who write numbers from unlike ends."""
