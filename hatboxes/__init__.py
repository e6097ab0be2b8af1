"""Hats that are guessed, and boxes that are opened."""
