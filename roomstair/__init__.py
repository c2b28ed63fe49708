"""Roomstair: teams put into rooms by any rule: a clash or a stair, by one walk."""
