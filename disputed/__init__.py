"""Disputed: two strong ones dispute a claim before a judge who reads a single leaf."""
