"""Authsync: authorization from many places."""
