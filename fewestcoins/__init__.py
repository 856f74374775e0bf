"""Fewest coins: how few coins a sum takes, and when taking the greatest first takes as few."""
