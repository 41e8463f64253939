"""Turntell: two rows of coins, each of which tells which coin of the other is turned."""
