"""The Alpha's whole-number instructions, run by steps over 65536 bytes."""
