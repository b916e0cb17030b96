"""Posthouses: houses along a road, posts to which their letters are carried, and bounds that show that none do better.
"""
