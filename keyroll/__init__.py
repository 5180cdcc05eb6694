"""Keyroll: keys lent, copied and lost, and who could have opened which door when."""
