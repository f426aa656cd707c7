"""Oncestream: a stream engine that counts each row once."""
