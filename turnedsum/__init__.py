"""Turned round and added: the calls stand in turnedsum.trains."""
