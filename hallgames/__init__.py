"""Taflhall: games. What is called from outside is answers, in hallgames.desk."""
