"""Lanescroll: pictures in lanes, in pieces that come in any order."""
