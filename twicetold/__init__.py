"""Twicetold: accounts kept in two times, the day of a move and the hour of its telling."""
