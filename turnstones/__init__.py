"""Reversi: games are played and taken back. The one function to call is answers, in game.py."""
