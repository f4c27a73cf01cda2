"""What bytes and texts are made of, for those who read them and those who write them alike."""

BEGINNING = (76, 87, 67, 49)
INSTRUCTION_WIDTHS = (1, 1, 1, 1, 2, 2, 2, 2, 4, 8, 4, 4)
HEX_DIGITS = "0123456789abcdef"
SLOT_WORD = "s"
NUMBER_WORD = "n"
