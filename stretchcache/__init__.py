"""The Pool's cache: blocks are kept, and written later, in stretches between barriers."""
