"""Statistics of columns: counts and bounds, merged, as bytes, and what they promise of conditions."""
