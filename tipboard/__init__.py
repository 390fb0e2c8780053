"""A seesaw: who sits where, how it tips, and in how many ways it balances."""
