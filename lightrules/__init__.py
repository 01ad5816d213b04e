"""Light rules: crossings read from their lights, and decided for all comings."""
