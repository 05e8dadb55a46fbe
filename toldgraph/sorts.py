"""What a value is: the first of the two numbers that tell it."""

NUMBER = 0
FUNCTION = 1
PAIR = 2
REFERENCE = 3
