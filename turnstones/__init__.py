"""Reversi: games are played, counted and reckoned to the end. The one function to call is answers, in game.py."""
