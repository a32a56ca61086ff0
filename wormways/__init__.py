"""Wormways: letters in pieces that hold lanes as they go."""
