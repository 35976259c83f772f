"""Gaugeroad: how far a chart can be from the truth, from the wheel to the alarm."""
