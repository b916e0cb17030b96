"""Posthouses: houses along a road, posts to which their letters are carried."""
