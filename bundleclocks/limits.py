"""The bounds that a sale keeps to where its house tells no others."""

ROUNDS = 6
SEALED = 8
