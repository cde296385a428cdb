"""Bytes in strands, whole: bytes written as strands of four letters."""
