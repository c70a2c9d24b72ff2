"""Quickbythen: drops that each go what will be quickest by then."""
