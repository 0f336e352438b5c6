"""Purseborder: two purses, two hands, and what is enough for ever."""
