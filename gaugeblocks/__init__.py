"""Sizes with their limits, and stacks of gauge blocks; the calls are in gaugeblocks.sizes."""
