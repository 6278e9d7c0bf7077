"""The numbers that refuse a call."""

NOT_THERE = -2
NOT_AS_TOLD = -22
TOO_MANY_BOUNDS = -28
