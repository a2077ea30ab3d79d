"""Proofs in rows: texts are read, each row's formula is worked out, and it is asked what is proved."""
