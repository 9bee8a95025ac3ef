"""The numbers that bound what peers do."""

VERSION = 1
TURN = 5
REWARDS = 2
ROUND = 20
