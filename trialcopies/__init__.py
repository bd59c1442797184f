"""Trials that copy each other's weights, and plans that build them anew."""
