"""Where in the tuple of a visit each thing is told."""

HAND = 0
WANTED = 1
LOWERED = 2
TICKET = 3
ENTERED = 4
LEFT = 5
