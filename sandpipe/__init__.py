"""Pipelines for sand and water: sandpipe.pipe.answers is the way in."""
