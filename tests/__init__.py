"""The tests of heapwright."""
