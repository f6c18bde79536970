"""Kept on disk: an editor whose text is there when power has gone."""
