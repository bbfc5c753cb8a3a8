"""Taflhall: endings. The calls are answered by hallends.desk.answers."""
